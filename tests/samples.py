"""Programs that several tests use, ways to change parts of them, and what several tests check."""

import unittest

MAIN = ("main", (), (), (("log", "", False), ("plug", "", True)))
ONE = ("one", ("base",), (("log", "a"),), (("log", "", False),))
TWO = ("two", ("base",), (("log", "b"), ("plug", "")), (("log", "a", False),))
BASE = ("base", (), (("log", ""),), ())
DOORS = (("one", "global"), ("two", "local"), ("one", "deep"))
# the example of section 3 of the document
PROGRAM = ((MAIN, ONE, TWO, BASE), (), DOORS)


def lib(name, needs=(), defs=(), uses=()):
    return (name, needs, defs, uses)


def listed(value):
    """The value with a list for each tuple, at every depth."""
    if isinstance(value, (list, tuple)):
        return [listed(part) for part in value]
    return value


def nested(value, levels):
    """The value inside so many tuples and lists, by turns."""
    for level in range(levels):
        value = (value,) if level % 2 else [value]
    return value


def places(value, path=()):
    """The paths to the value and to all that is in it."""
    found = [path]
    if isinstance(value, tuple):
        for at, part in enumerate(value):
            found += places(part, path + (at,))
    return found


def part_at(value, path):
    for at in path:
        value = value[at]
    return value


def replaced(value, path, part):
    """The value with this part at the end of the path."""
    if not path:
        return part
    at = path[0]
    return value[:at] + (replaced(value[at], path[1:], part),) + value[at + 1:]


# values that are no RUN, no list of doors and no preload, of whatever program
OTHERS = (None, True, False, 0, 1, -1, "", "a", "open", "open 0", [[]], [()], ((),), (None,), [None], ("",), [""],
          ("open", 0), ["open", 0], ("call", "main", 0), (("open", True),), (("open", "0"),), ([],), (0,), (0, 1),
          [True], [False, 1], ["0"], [0, None], (("jump", 0),), (("call", "main"),), nested("a", 12), nested(0, 12),
          nested((), 11), nested(("open", 0), 10))


class Raising(unittest.TestCase):

    def raises(self, error, worth, action, *given, **named):
        """The action raises just this error, with this worth as its only attribute."""
        with self.assertRaises(error) as caught:
            action(*given, **named)
        self.assertIs(type(caught.exception), error)
        self.assertEqual(list(vars(caught.exception).values()), [worth])

    def told_by_lists(self, action, *given):
        """What the action tells, which it tells of lists for tuples, too, and leaves as they are."""
        told = action(*given)
        lists = listed(given)
        self.assertEqual(action(*lists), told)
        self.assertEqual(lists, listed(given))
        self.assertEqual(action(*given), told)
        return told
