"""Programs at the limits of the document, and the time that is allowed for them."""

import random
import time
import unittest

import model

# far above what each function needs, so that a slow machine passes, and far below what a search without end needs
MOST_SECONDS = 20

# needs of seven libraries and doors to them: hundreds of thousands of bases, and many ways to look
NEEDS_AND_DOORS = (
    ({"a": "cde", "b": "", "c": "g", "d": "fbg", "e": "f", "f": "b", "g": "b"},
     (("e", "deep"), ("c", "local"), ("a", "global"), ("d", "deep"))),
    ({"a": "eb", "b": "", "c": "d", "d": "", "e": "dba", "f": "egc", "g": "b"},
     (("a", "global"), ("g", "deep"), ("f", "global"), ("c", "local"))),
)
MANY = tuple(("f", version) for version in ("", "a", "b", "c", "d", "e"))
MIXED = (("f", ""), ("f", "a"), ("g", ""), ("g", "a"), ("h", ""), ("h", "a"))
USES = (("f", "", False), ("f", "a", True), ("f", "b", False), ("f", "z", True))
MIXED_USES = (("f", "", True), ("f", "b", False), ("g", "a", True), ("h", "b", False))


def big(needs, doors, defs, uses, preload=()):
    libs = [("main", (), (), uses)] + [(name, tuple(needs[name]), defs, uses) for name in needs]
    return tuple(libs), tuple(preload), tuple(doors)


def uneven(seed, needs, doors):
    """A program in which each library has other definitions and uses, so that none stands for another."""
    dice = random.Random(seed)
    pairs = [(symbol, version) for symbol in "fghkmn" for version in ("", "a", "b")]
    made = []
    for name in ["main", *needs]:
        own = tuple(sorted(dice.sample(pairs, 6)))
        uses = tuple(sorted(pair + (dice.random() < 0.5,) for pair in dice.sample(pairs, 4)))
        made.append((name, tuple(needs.get(name, "")), own if name != "main" else (), uses))
    return tuple(made), (), tuple(doors)


class Timed(unittest.TestCase):

    def programs(self):
        yield big(*NEEDS_AND_DOORS[0], MANY, USES)
        yield big(*NEEDS_AND_DOORS[1], MIXED, MIXED_USES)
        yield big(*NEEDS_AND_DOORS[0], MANY, USES, "gfedcba")

    def timed(self, function, *given):
        begin = time.monotonic()
        told = function(*given)
        self.assertLess(time.monotonic() - begin, MOST_SECONDS, function.__name__)
        return told


class TimedMore(Timed):

    def programs(self):
        yield from super().programs()
        yield uneven(1, *NEEDS_AND_DOORS[0])
        yield uneven(2, *NEEDS_AND_DOORS[1])
        yield model.lively_program(3, 8, 4, "fgh")
