import itertools
import random
import unittest

import model
import searched
from latebound import preload as preload_file
from latebound.data import is_program
from latebound.errors import NoLib, NoUse
from latebound.preload import (breach, clash, gives_all, is_lean, least_preload, many_preloads, shows_preload,
                               with_preload)
from latebound.runs import run
from samples import OTHERS, Raising, lib, listed

F, WEAK_F = ("f", "", False), ("f", "", True)
# the examples of section 10 of the document
LATE = lib("d", ("x",), (("g", ""),), (F, ("h", "", True)))
LIBS = (lib("main", ("k",), (), (F,)), lib("k", (), (("f", ""),)), lib("x", (), (("f", "one"),)), LATE)
TEN = (LIBS, (), (("d", "deep"),))
OWN, FAR = ("main", 0, ("bound", "x", "one")), ("d", 0, ("bound", "k", ""))
APART = ((lib("main"), lib("v", (), (("f", ""),)), lib("u", (), (), (WEAK_F,)), lib("w", ("u", "v"))), (),
         (("w", "local"),))
NOBODY, LOST = ("nobody",), ("lost",)

# the functions with wanted, each with what comes behind it
ASKED = ((gives_all,), (breach,), (least_preload,), (clash,), (many_preloads, 0), (many_preloads, 2), (is_lean, ()),
         (is_lean, ("d", "x"))) + tuple((shows_preload, thing) for thing in OTHERS + ((), ("x",)))


def small_programs():
    """Programs with at most 65 preloads."""
    for seed in range(36):
        yield model.lively_program(500 + seed, 2 + seed % 4, 1 + seed % 3, "fg" if seed % 3 else "f")
    for seed in range(10):
        yield model.random_program(seed, libs=4, doors=2)


def possible(program):
    """Many WANTs, also such as nobody can tell."""
    answers = [("bound", other[0], version) for other in program[0] for version in ("", "a")]
    answers += [NOBODY, LOST, ("bound", "nope", ""), ("bound", "main", "zzz")]
    return [step[1:] + (answer,) for step in model.call_steps(program) for answer in answers]


def told_by_preloads(program):
    """For each preload a dict of the answers to each call, by a search over all states with the slot of one use."""
    found = {}
    for preload in searched.preloads(program):
        changed = (program[0], preload, program[2])
        told = {}
        for name, i in [step[1:] for step in model.call_steps(program)]:
            answers = {}
            for state, way in model.states(changed, model.door_steps(changed)).items():
                if name in model.there_in(changed, state):
                    answers.setdefault(model.called(changed, state, name, i)[0], way + (("call", name, i),))
            told[(name, i)] = answers
        found[preload] = told
    return found


def is_given(told, want):
    return all(answer == want[2] for answer in told[want[:2]])


class ExamplesTest(Raising):

    def test_examples(self):
        self.assertEqual((least_preload(TEN, (OWN,)), least_preload(TEN, (FAR,)), least_preload(TEN, (OWN, FAR)),
                          clash(TEN, (OWN, FAR))), (("x",), ("d",), None, (0, 1)))
        self.assertEqual((breach(TEN, (FAR,)), breach(with_preload(TEN, ("d",)), (FAR,)), breach(TEN, (OWN,))),
                         ((0, (("open", 0), ("call", "d", 0))), None, (0, (("call", "main", 0),))))
        self.assertEqual((least_preload(TEN, (("main", 0, ("bound", "k", "")), FAR)), many_preloads(TEN, (OWN,), 1),
                          many_preloads(TEN, (OWN,), 2)), (("d",), 1, 3))
        self.assertEqual((is_lean(TEN, (OWN,), ("x",)), is_lean(TEN, (OWN,), ("d", "x")),
                          shows_preload(TEN, (OWN,), ("d", "x")), shows_preload(TEN, (OWN,), ["x"])),
                         (True, False, True, False))

    def test_a_definition_that_is_taken_away(self):
        self.assertEqual((least_preload(APART, (("u", 0, NOBODY),)),
                          least_preload(APART, (("u", 0, ("bound", "v", "")),)),
                          least_preload(APART, (("u", 0, LOST),))), (("u",), (), None))

    def test_defined_in_this_file(self):
        for function in (with_preload, gives_all, breach, shows_preload, least_preload, many_preloads, is_lean, clash):
            self.assertEqual(function.__module__, preload_file.__name__)


class WithPreloadTest(Raising):

    def test_the_preload_alone_is_changed(self):
        told = self.told_by_lists(with_preload, (LIBS, ("k",), TEN[2]), ("x", "d"))
        self.assertEqual(told, (LIBS, ("x", "d"), TEN[2]))
        self.assertTrue(is_program(told))
        self.assertTrue(is_program(with_preload(preload=["x"], program=listed(TEN))))
        self.assertEqual(with_preload(told, ()), TEN)


class NoWantsTest(Raising):

    def test_no_wants(self):
        for wanted in ((), []):
            self.assertIs(gives_all(TEN, wanted), True)
            self.assertIsNone(breach(TEN, wanted))
            self.assertEqual(least_preload(TEN, wanted), ())
            self.assertEqual([many_preloads(TEN, wanted, many) for many in range(6)], [1, 3, 6, 6, 0, 0])
            self.assertIsNone(clash(TEN, wanted))
            self.assertEqual([is_lean(TEN, wanted, preload) for preload in ((), ("x",), ("d", "k"))],
                             [True, False, False])
            self.assertIs(shows_preload(TEN, wanted, ("k", "d", "x")), True)

    def test_main_alone(self):
        program = ((lib("main", (), (), (F,)),), (), ())
        self.assertEqual((least_preload(program, (("main", 0, LOST),)), least_preload(program, (("main", 0, NOBODY),))),
                         ((), None))
        self.assertEqual([many_preloads(program, (("main", 0, LOST),), many) for many in range(3)], [1, 0, 0])
        self.assertEqual((clash(program, (("main", 0, LOST),)), clash(program, (("main", 0, NOBODY),))), (None, (0,)))

    def test_more_names_than_there_are(self):
        for many in (4, 5, 100, 10 ** 30):
            self.assertEqual(many_preloads(TEN, (), many), 0)


class GivesTest(Raising):

    def test_a_library_that_is_never_there(self):
        program = (LIBS, (), ())
        for answer in (NOBODY, LOST, ("bound", "nope", "zzz"), ("bound", "d", "")):
            self.assertTrue(gives_all(program, (("d", 0, answer), ("d", 1, answer))))
            self.assertEqual(least_preload(program, (("d", 0, answer),)), ())

    def test_an_answer_that_nobody_can_tell(self):
        for answer in (("bound", "nope", ""), ("bound", "x", "two"), NOBODY, ("bound", "d", "")):
            wanted = (("main", 0, answer),)
            self.assertEqual((gives_all(TEN, wanted), least_preload(TEN, wanted), clash(TEN, wanted)),
                             (False, None, (0,)))
        # but d comes only by its door
        self.assertEqual(breach(TEN, (("d", 0, LOST),)), (0, (("open", 0), ("call", "d", 0))))

    def test_the_first_want_and_the_least_shortest_run(self):
        libs = (lib("main", (), (), (F, ("g", "", True))), lib("a", (), (("f", ""),)),
                lib("b", (), (("f", ""), ("g", ""))))
        program = (libs, (), (("b", "global"), ("a", "global"), ("b", "local")))
        lost, none = ("main", 0, LOST), ("main", 1, NOBODY)
        self.assertEqual(breach(program, (lost,)), (0, (("open", 0), ("call", "main", 0))))
        self.assertEqual(breach(program, (none, lost)), (0, (("open", 0), ("call", "main", 1))))
        self.assertEqual(breach(program, (("main", 0, ("bound", "a", "")), none)), (0, (("call", "main", 0),)))
        self.assertEqual(breach((libs, (), program[2][1:]), (none, lost)), (1, (("open", 0), ("call", "main", 0))))
        self.assertIsNone(breach((libs, (), program[2][2:]), (none, lost)))

    def test_weak_or_not_only_what_is_told_counts(self):
        libs = (lib("main", (), (), (F, ("g", "", True))),)
        told = {(i, answer): gives_all((libs, (), ()), [("main", i, answer)])
                for i in (0, 1) for answer in (NOBODY, LOST)}
        self.assertEqual(told, {(0, NOBODY): False, (0, LOST): True, (1, NOBODY): True, (1, LOST): False})

    def test_the_first_call_since_the_library_came(self):
        # a second call of a lost one can be bound, and a kept one torn: only the first one counts
        program = ((lib("main", (), (), (F,)), lib("a", (), (("f", ""),))), ("a",), (("a", "global"),))
        self.assertTrue(gives_all(program, (("main", 0, ("bound", "a", "")),)))


class SearchTest(Raising):

    def test_beside_a_search_over_all_preloads(self):
        found = {"least": {}, "clash": {}, "lean": {}}
        dice = random.Random(7)
        for program in small_programs():
            told = told_by_preloads(program)
            possibles = possible(program)
            # answers that are told with some preload are rarer, and more to the point
            likely = [call + (answer,) for answers in told.values() for call in answers for answer in answers[call]]
            for _ in range(14 if possibles else 0):
                wants = dice.sample(likely, min(len(likely), 4)) + dice.sample(possibles, 1)
                dice.shuffle(wants)
                wanted = tuple({want[:2]: want for want in wants}.values())[:dice.choice((1, 2, 2, 3, 4))]
                self.compare(program, told, wanted, found, dice)
        for key in (None, 0, 1, 2):
            self.assertGreater(found["least"].get(key, 0), 4, found)
        for key in (None, 1, 2):
            self.assertGreater(found["clash"].get(key, 0), 4, found)
        self.assertGreater(min(found["lean"].values()), 50, found)

    def compare(self, program, told, wanted, found, dice):
        fitting = [preload for preload in told if all(is_given(told[preload], want) for want in wanted)]
        least = fitting[0] if fitting else None
        self.assertEqual(least_preload(program, wanted), least, (program, wanted))
        for many in range(len(program[0]) + 1):
            self.assertEqual(many_preloads(program, wanted, many), len([one for one in fitting if len(one) == many]))
        clashing = None
        if not fitting:
            clashing = next(tuple(chosen) for chosen in model.subsets(range(len(wanted))) if not any(
                all(is_given(told[preload], wanted[at]) for at in chosen) for preload in told))
        self.assertEqual(clash(program, wanted), clashing, (program, wanted))
        for preload in dice.sample(list(told), min(4, len(told))) + fitting[:2] + fitting[-1:]:
            fewer = [preload[:at] + preload[at + 1:] for at in range(len(preload))]
            lean = preload in fitting and not any(less in fitting for less in fewer)
            self.assertIs(is_lean(program, wanted, preload), lean, (program, wanted, preload))
            self.assertIs(shows_preload(program, wanted, preload), preload in fitting)
            changed = with_preload(program, preload)
            self.assertIs(gives_all(changed, wanted), preload in fitting)
            self.assertEqual(breach(changed, wanted), self.searched_breach(told[preload], wanted))
            found["lean"][lean] = found["lean"].get(lean, 0) + 1
        for kind, told_of in (("least", least), ("clash", clashing)):
            key = None if told_of is None else len(told_of)
            found[kind][key] = found[kind].get(key, 0) + 1

    def searched_breach(self, told, wanted):
        for at, want in enumerate(wanted):
            others = [way for answer, way in told[want[:2]].items() if answer != want[2]]
            if others:
                return at, searched.least(others)
        return None

    def test_the_own_preload_does_not_matter(self):
        for preload in ((), ("x",), ("d", "k")):
            program = with_preload(TEN, preload)
            for wanted in ((OWN,), (FAR,), (OWN, FAR)):
                self.assertEqual(least_preload(program, wanted), least_preload(TEN, wanted))
                self.assertEqual(clash(program, wanted), clash(TEN, wanted))
                self.assertEqual([many_preloads(program, wanted, many) for many in range(4)],
                                 [many_preloads(TEN, wanted, many) for many in range(4)])
                self.assertEqual(is_lean(program, wanted, ("x",)), is_lean(TEN, wanted, ("x",)))

    def test_the_names_of_the_wants_are_enough(self):
        """If some preload gives all WANTs, one does that has just the names of the callers and of the wanted ones."""
        for program in list(small_programs())[:12]:
            for want in possible(program):
                preload = least_preload(program, (want,))
                names = {want[0]} | ({want[2][1]} if want[2][0] == "bound" else set())
                names = [name for name in names if name in [other[0] for other in program[0][1:]]]
                fitting = [some for many in range(3) for some in itertools.permutations(sorted(names), many)
                           if shows_preload(program, (want,), some)]
                self.assertEqual(preload is not None, bool(fitting), (program, want))

    def test_clash_is_the_least_of_several(self):
        libs = (lib("main", (), (), (("f", "", False), ("g", "", False), ("h", "", False))),
                lib("a", (), (("f", ""), ("g", ""), ("h", ""))), lib("b", (), (("f", ""), ("g", ""), ("h", ""))))
        first = [("main", i, ("bound", "a", "")) for i in range(3)]
        second = [("main", i, ("bound", "b", "")) for i in range(3)]
        program = (libs, (), ())
        self.assertEqual(clash(program, (first[0], first[1], second[2])), (0, 2))
        self.assertEqual(clash(program, (first[0], second[1], second[2])), (0, 1))
        self.assertEqual(clash(program, (first[0], second[1], ("main", 2, NOBODY))), (2,))
        self.assertIsNone(clash(program, first))

    def test_three_wants_that_only_together_clash(self):
        libs = (lib("main", (), (), (("f", "", True), ("g", "", True), ("h", "", True))),
                lib("a", (), (("f", ""), ("g", ""))),
                lib("b", (), (("g", ""), ("h", ""))), lib("c", (), (("f", ""), ("h", ""))))
        # a ahead of c, b ahead of a, c ahead of b
        wanted = (("main", 0, ("bound", "a", "")), ("main", 1, ("bound", "b", "")), ("main", 2, ("bound", "c", "")))
        self.assertEqual(clash((libs, (), ()), wanted), (0, 1, 2))
        self.assertEqual(least_preload((libs, (), ()), wanted[:2]), ("b", "a"))
        self.assertEqual(least_preload((libs, (), ()), wanted[1:]), ("c", "b"))


class ShowsPreloadTest(Raising):

    def test_other_values(self):
        for thing in ((), ("x",), ("x", "d"), ("d", "x"), ("k", "x", "d")):
            self.assertIs(shows_preload(TEN, (), thing), True)
        for thing in OTHERS + (["x"], [], ("main",), ("x", "main"), ("x", "x"), ("x", "d", "x"), ("nope",),
                               ("x", "nope"), ("x", ""), ("x", None), "x", "xd", (("x",),), ("X",), ("x", 0),
                               ("x", True), ("x", ["d"])):
            self.assertIs(shows_preload(TEN, (), thing), False, thing)
            self.assertIs(shows_preload(TEN, (OWN,), thing), False, thing)


class ErrorsTest(Raising):

    def test_the_first_want_that_is_wrong(self):
        for wanted, error, worth in (
                ((("nope", 0, LOST),), NoLib, "nope"), ((("nope", -1, LOST),), NoLib, "nope"),
                ((("main", 1, LOST),), NoUse, 1), ((("k", 0, LOST),), NoUse, 0), ((("main", -1, LOST),), NoUse, -1),
                ((OWN, ("d", 2, LOST), ("nope", 0, LOST)), NoUse, 2),
                ((OWN, ("nix", 0, LOST), ("d", 9, LOST)), NoLib, "nix"),
                # another one is not given, or all others are
                ((OWN, FAR, ("d", 10 ** 30, LOST)), NoUse, 10 ** 30), ((FAR, ("x", 0, LOST)), NoUse, 0)):
            for function, *rest in ASKED:
                self.raises(error, worth, function, TEN, wanted, *rest)
                self.raises(error, worth, function, listed(TEN), listed(wanted), *rest)

    def test_by_name(self):
        self.assertIs(gives_all(wanted=(OWN,), program=TEN), False)
        self.assertEqual(breach(wanted=(OWN,), program=TEN), (0, (("call", "main", 0),)))
        self.assertIs(shows_preload(thing=("x",), wanted=(OWN,), program=TEN), True)
        self.assertEqual(least_preload(wanted=(OWN,), program=TEN), ("x",))
        self.assertEqual(many_preloads(many=1, wanted=(OWN,), program=TEN), 1)
        self.assertIs(is_lean(preload=("x",), wanted=(OWN,), program=TEN), True)
        self.assertEqual(clash(wanted=(OWN, FAR), program=TEN), (0, 1))

    def test_lists_and_kinds(self):
        for function, *rest in ((gives_all,), (breach,), (least_preload,), (clash,), (many_preloads, 2),
                                (is_lean, ("x",))):
            for wanted in ((OWN,), (OWN, FAR), (), (("main", 0, ("bound", "k", "")), FAR)):
                self.told_by_lists(function, TEN, wanted, *rest)
        told = [breach(TEN, (FAR,)), breach(TEN, (FAR,))[1], least_preload(TEN, (OWN,)), clash(TEN, (OWN, FAR)),
                with_preload(listed(TEN), ["x"]), with_preload(TEN, ["x"])[1], least_preload(TEN, ())]
        self.assertEqual([type(part) for part in told], [tuple] * 7)
        self.assertEqual(run(TEN, breach(TEN, (FAR,))[1])[-1], ("bound", "x", "one"))


if __name__ == "__main__":
    unittest.main()
