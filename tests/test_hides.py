import copy
import itertools
import random
import unittest

import model
from latebound import binds
from latebound.binds import always, fewest_hides, hides, without
from latebound.errors import NoLib, NoUse
from samples import lib, listed
from test_binds import LIBS, SIX

MANY_DEFINITIONS = 7
PROGRAMS = [model.random_program(seed, libs=2 + seed % 3, doors=1 + seed % 3, uses=3) for seed in range(100)]
# of one symbol, so that much stands ahead of much
PROGRAMS += [model.random_program(seed, libs=4, doors=3, defs=3, uses=3, symbols="f") for seed in range(120)]
SMALL = [program for program in PROGRAMS
         if len(model.all_definitions(program)) <= MANY_DEFINITIONS and model.call_steps(program)]


def definition(program, want):
    name, i, answer = want
    symbol = model.lib_of(program, name)[3][i][0]
    return (answer[1], symbol, answer[2]) if answer[0] == "bound" else None


def possible(program, name, i):
    """All possible answers of this call, those that it never has among them."""
    symbol, version, weak = model.lib_of(program, name)[3][i]
    found = [("bound", other, has) for other, defined, has in model.all_definitions(program)
             if defined == symbol and (has == version or "" in (has, version))]
    return found + [("nobody",) if weak else ("lost",)]


def met(program, looked, want):
    name, i, answer = want
    return model.answers_looked(program, name, i, looked[(name, i)]) <= {answer}


def searched_hides(program, looked, wants):
    """The answer by a search over all sets of definitions; the smaller ones come first."""
    kept = [definition(program, want) for want in wants]
    for gone in model.subsets(model.all_definitions(program)):
        stripped = model.stripped(program, gone)
        if not set(kept) & set(gone) and all(met(stripped, looked, want) for want in wants):
            return gone
    return None


def searched_fewest(program, looked, calls):
    for gone in model.subsets(model.all_definitions(program)):
        stripped = model.stripped(program, gone)
        told = [sorted(model.answers_looked(stripped, name, i, looked[(name, i)])) for name, i in calls]
        if all(len(found) <= 1 for found in told):
            return gone, tuple(found[0] if found else None for found in told)


class HidesTest(unittest.TestCase):

    def raises(self, error, worth, *given, **named):
        with self.assertRaises(error) as caught:
            hides(*given, **named)
        self.assertEqual(list(vars(caught.exception).values()), [worth])

    def test_example(self):
        self.assertIsNone(hides(SIX, [("mid", 0, ("bound", "top", "two"))]))
        self.assertEqual(hides(SIX, [("mid", 0, ("bound", "mid", ""))]), [("top", "f", "two")])

    def test_nothing_must_go(self):
        self.assertEqual((hides(SIX, []), hides(SIX, ())), ([], []))
        top = (LIBS, ("top",), (("mid", "global"),))
        self.assertEqual(hides(top, [("main", 0, ("bound", "top", "two"))]), [])
        self.assertEqual(hides((LIBS, (), ()), [("main", 0, ("lost",)), ("main", 1, ("nobody",))]), [])

    def test_nobody_and_lost(self):
        self.assertEqual(hides(SIX, [("main", 1, ("nobody",))]), [("low", "g", "")])
        self.assertEqual(hides(SIX, [("main", 0, ("lost",))]),
                         [("low", "f", "one"), ("mid", "f", ""), ("top", "f", "two")])

    def test_versions_of_one_library(self):
        defs = (("f", ""), ("f", "a"), ("f", "b"))
        libs = (lib("main", (), (), (("f", "", False), ("f", "b", False))), lib("x", (), defs))
        program = (libs, ("x",), ())
        for i, version, gone in ((0, "", ()), (0, "a", ("",)), (0, "b", ("", "a")), (1, "b", ()), (1, "", ("b",))):
            self.assertEqual(hides(program, [("main", i, ("bound", "x", version))]), [("x", "f", one) for one in gone])
        both = [("main", 0, ("bound", "x", "a")), ("main", 1, ("bound", "x", ""))]
        self.assertIsNone(hides(program, both))

    def test_a_library_that_is_never_there(self):
        program = (LIBS, (), (("top", "global"),))
        unlike = [("mid", 0, ("bound", "mid", "")), ("mid", 0, ("bound", "top", "two")), ("mid", 0, ("lost",))]
        self.assertEqual(hides(program, unlike), [])
        # what it wants must stay all the same
        self.assertEqual(hides(program, [("main", 0, ("lost",))]), [("top", "f", "two")])
        self.assertIsNone(hides(program, [("main", 0, ("lost",)), ("mid", 0, ("bound", "top", "two"))]))
        self.assertEqual(hides(program, [("main", 0, ("lost",)), ("mid", 0, ("bound", "mid", ""))]),
                         [("top", "f", "two")])

    def test_unlike_answers_of_one_call(self):
        program = (LIBS, ("top", "mid"), ())
        one, two, none = [("mid", 0, answer) for answer in (("bound", "top", "two"), ("bound", "mid", ""), ("lost",))]
        self.assertEqual([hides(program, [want]) for want in (one, two, none)],
                         [[], [("top", "f", "two")], [("mid", "f", ""), ("top", "f", "two")]])
        for wants in ((one, two), (two, one), (one, none), (none, two), (one, two, none)):
            self.assertIsNone(hides(program, list(wants)))
        self.assertEqual(hides(program, [two, two]), hides(program, [two]))

    def test_beside_a_search_over_all_sets(self):
        told = {"none": 0, "empty": 0, "some": 0}
        dice = random.Random(5)
        for program in SMALL:
            looked = model.looked_by_all(program)
            wants = [(name, i, answer) for name, i in looked for answer in possible(program, name, i)]
            cases = [[want] for want in wants]
            cases += [[dice.choice(wants) for _ in range(many)] for many in (2, 2, 2, 3, 3, 4) for _ in range(2)]
            for case in cases:
                wanted = searched_hides(program, looked, case)
                self.assertEqual(hides(program, case), wanted, (program, case))
                told["none" if wanted is None else "some" if wanted else "empty"] += 1
        self.assertGreater(min(told.values()), 100, told)

    def test_the_wants_are_met_without_these(self):
        for seed in range(8):
            program = model.random_program(seed, libs=7, doors=3, defs=5, uses=4)
            for _, name, i in model.call_steps(program):
                for answer in possible(program, name, i):
                    told = hides(program, [(name, i, answer)])
                    if told is not None:
                        self.assertIn(always(without(program, told), name, i), (answer, None))
                        self.assertNotIn(definition(program, (name, i, answer)), told)

    def test_the_first_want_that_is_wrong(self):
        good = ("main", 0, ("lost",))
        for wants, error, worth in (
                ([("nope", 0, ("lost",))], NoLib, "nope"), ([("nope", 9, ("lost",))], NoLib, "nope"),
                ([("low", 0, ("lost",))], NoUse, 0), ([("main", -1, ("lost",))], NoUse, -1),
                ([good, ("main", 2, ("lost",)), ("nope", 0, ("lost",))], NoUse, 2),
                ([good, ("nope", 0, ("lost",)), ("main", 2, ("lost",))], NoLib, "nope"),
                # None or [] would come of the others alone
                ([("mid", 0, ("bound", "top", "two")), ("main", 10 ** 30, ("lost",))], NoUse, 10 ** 30)):
            self.raises(error, worth, SIX, wants)
            self.raises(error, worth, wants=listed(wants), program=listed(SIX))

    def test_lists_and_kinds(self):
        program, wants = listed(SIX), listed([("mid", 0, ("bound", "mid", "")), ("main", 1, ("nobody",))])
        kept = copy.deepcopy((program, wants))
        told = hides(program=program, wants=wants)
        self.assertEqual(told, [("low", "g", ""), ("top", "f", "two")])
        self.assertEqual([type(told)] + [type(one) for one in told], [list, tuple, tuple])
        told.clear()
        self.assertEqual((program, wants), kept)
        self.assertEqual(hides(SIX, tuple(wants)), [("low", "g", ""), ("top", "f", "two")])


class FewestHidesTest(unittest.TestCase):

    def test_example(self):
        self.assertEqual(fewest_hides(SIX, [("mid", 0), ("main", 1)]),
                         ([("low", "g", ""), ("top", "f", "two")], (("bound", "mid", ""), ("nobody",))))

    def test_from_the_beginning(self):
        program = (LIBS, ("top",), (("mid", "global"),))
        self.assertEqual(fewest_hides(program, [("main", 0), ("mid", 0)]), ([], (("bound", "top", "two"),) * 2))
        self.assertEqual(fewest_hides((LIBS, (), ()), [("mid", 0), ("main", 0), ("main", 1)]),
                         ([], (None, ("lost",), ("nobody",))))
        self.assertEqual(fewest_hides((LIBS, (), ()), [("mid", 0), ("mid", 0)]), ([], (None, None)))

    def test_the_least_of_several(self):
        # bound to a or to b, by the order of the doors: one of both must go
        uses = (("f", "", False), ("g", "", False))
        libs = (lib("main"), lib("c", ("a", "b"), (), uses), lib("a", (), (("f", ""), ("g", ""))),
                lib("b", (), (("f", ""), ("g", ""))))
        program = (libs, (), (("a", "global"), ("b", "global"), ("c", "local")))
        self.assertEqual(fewest_hides(program, [("c", 0)]), ([("a", "f", "")], (("bound", "b", ""),)))
        self.assertEqual(fewest_hides(program, [("c", 1), ("c", 0)]),
                         ([("a", "f", ""), ("a", "g", "")], (("bound", "b", ""),) * 2))
        again = fewest_hides(program, [("c", 0), ("c", 0)])
        self.assertEqual(again, ([("a", "f", "")], (("bound", "b", ""),) * 2))

    def test_one_call_loses_more_so_that_all_lose_less(self):
        libs = (lib("main", (), (), (("f", "u", True),)), lib("c", ("a", "b"), (), (("f", "", False),)),
                lib("a", (), (("f", ""), ("f", "u"))), lib("b", (), (("f", "v"),)))
        program = (libs, (), (("a", "global"), ("b", "global"), ("c", "local")))
        self.assertEqual(fewest_hides(program, [("c", 0)]), ([("b", "f", "v")], (("bound", "a", ""),)))
        # a is not always there for main, so it must go; then c has b
        self.assertEqual(fewest_hides(program, [("c", 0), ("main", 0)]),
                         ([("a", "f", ""), ("a", "f", "u")], (("bound", "b", "v"), ("nobody",))))

    def test_beside_a_search_over_all_sets(self):
        sizes = [0] * (MANY_DEFINITIONS + 1)
        dice = random.Random(6)
        for program in SMALL:
            looked = model.looked_by_all(program)
            calls = list(looked)
            cases = [list(case) for many in (1, 2) for case in itertools.product(calls, repeat=many)]
            cases = cases[:12] + [[dice.choice(calls) for _ in range(3)] for _ in range(8)]
            for case in cases:
                wanted = searched_fewest(program, looked, case)
                self.assertEqual(fewest_hides(program, case), wanted, (program, case))
                sizes[len(wanted[0])] += 1
        self.assertGreater(min(sizes[:5]), 20, sizes)

    def test_what_always_tells_then(self):
        for seed in range(8):
            program = model.random_program(seed, libs=7, doors=3, defs=5, uses=4)
            calls = [step[1:] for step in model.call_steps(program)][:3]
            gone, told = fewest_hides(program, calls)
            self.assertEqual(gone, sorted(gone))
            self.assertEqual(told, tuple(always(without(program, gone), name, i) for name, i in calls))

    def test_the_first_call_that_is_wrong(self):
        for calls, error, worth in (
                ([("nope", 0)], NoLib, "nope"), ([("nope", -1)], NoLib, "nope"), ([("low", 0)], NoUse, 0),
                ([("main", -1)], NoUse, -1), ([("main", 0), ("main", 2), ("nope", 0)], NoUse, 2),
                ([("main", 0), ("nix", 0), ("main", 2)], NoLib, "nix"),
                ([("mid", 0), ("main", 1), ("mid", 10 ** 30)], NoUse, 10 ** 30)):
            for given in (calls, tuple(calls), listed(calls)):
                with self.assertRaises(error) as caught:
                    fewest_hides(SIX, given)
                self.assertEqual(list(vars(caught.exception).values()), [worth])

    def test_lists_and_kinds(self):
        program, calls = listed(SIX), listed([("mid", 0), ("main", 1)])
        kept = copy.deepcopy((program, calls))
        told = fewest_hides(program=program, calls=calls)
        self.assertEqual(told, fewest_hides(SIX, (("mid", 0), ("main", 1))))
        gone, answers = told
        self.assertEqual([type(part) for part in (told, gone, gone[0], answers, answers[0])],
                         [tuple, list, tuple, tuple, tuple])
        gone.clear()
        self.assertEqual((program, calls), kept)
        self.assertEqual(len(fewest_hides(program, calls)[0]), 2)

    def test_defined_in_this_file(self):
        for function in (hides, fewest_hides):
            self.assertEqual(function.__module__, binds.__name__)


if __name__ == "__main__":
    unittest.main()
