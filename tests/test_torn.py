import itertools
import unittest

import model
import searched
from latebound import torn as torn_file
from latebound.errors import NoDoor, NoLib, NoUse, Ring
from latebound.runs import run
from latebound.torn import fewest_pins, shows_pins, steady_order, tearing_run, torn
from samples import OTHERS, PROGRAM, Raising, lib

F, G, H, WEAK_F = ("f", "", False), ("g", "", False), ("h", "", False), ("f", "", True)
# the example of section 7 of the document
MAIN, LEFT, RIGHT = lib("main", (), (), (F,)), lib("left", (), (("f", ""),), (G,)), lib("right", (), (("g", ""),))
DOORS = (("left", "global"), ("right", "global"))
SEVEN = ((MAIN, LEFT, RIGHT), (), DOORS)
LEFTER, RIGHTER = lib("left", (), (("f", ""), ("h", "")), (G,)), lib("right", (), (("g", ""),), (H,))
RING = ((MAIN, LEFTER, RIGHTER), (), DOORS)

SMALL = [model.lively_program(seed, libs=2 + seed % 5, doors=2 + seed % 2, symbols="fg" if seed % 3 else "f")
         for seed in range(80, 120)]


def calls_of(program):
    return [step[1:] for step in model.call_steps(program)]


def around(*links):
    """A program with a library and a global door for each letter, each bound to those that it has a link to."""
    names = sorted({name for link in links for name in link})
    libs = [lib("main")]
    for name in names:
        used = sorted((other, "", False) for one, other in links if one == name)
        libs.append(lib(name, (), ((name, ""),), tuple(used)))
    return tuple(libs), (), tuple((name, "global") for name in names)


class TornTest(Raising):

    def test_example(self):
        self.assertEqual(torn(SEVEN), [("left", 0, "right"), ("main", 0, "left")])

    def test_defined_in_this_file(self):
        for function in (torn, tearing_run, fewest_pins, shows_pins, steady_order):
            self.assertEqual(function.__module__, torn_file.__name__)

    def test_nothing(self):
        self.assertEqual(torn(((lib("main", (), (), (F,)),), (), ())), [])
        self.assertEqual(torn(((MAIN, LEFT, RIGHT), (), ())), [])

    def test_a_target_of_the_first_row_never_goes(self):
        self.assertEqual(torn(((MAIN, LEFT, RIGHT), ("left",), DOORS)), [("left", 0, "right")])
        self.assertEqual(torn(((MAIN, LEFT, RIGHT), ("left", "right"), DOORS)), [])
        needing = lib("main", ("left",), (), (F,))
        self.assertEqual(torn(((needing, LEFT, RIGHT), (), DOORS)), [("left", 0, "right")])

    def test_a_target_that_the_caller_needs_never_goes_ahead_of_it(self):
        needing = lib("left", ("right",), (("f", ""),), (G,))
        for mode in ("global", "local", "deep"):
            program = ((MAIN, needing, RIGHT), (), (("left", mode), ("right", "global")))
            self.assertNotIn(("left", 0, "right"), torn(program))

    def test_libraries_that_need_each_other(self):
        both = (lib("main"), lib("left", ("right",), (), (G,)), lib("right", ("left",), (("g", ""),), (G,)))
        self.assertEqual(torn((both, (), DOORS)), [])

    def test_a_row_with_the_target_beside_one_without_it(self):
        # by door 0 the caller finds the target along its row; door 1 has the caller alone
        libs = (lib("main"), lib("c", (), (), (F,)), lib("t", (), (("f", ""),)), lib("x", ("c", "t")))
        local, alone = ("x", "local"), ("c", "local")
        self.assertEqual(torn((libs, (), (local,))), [])
        self.assertEqual(torn((libs, (), (local, alone))), [("c", 0, "t")])
        self.assertEqual(torn((libs, (), (local, ("t", "local")))), [])
        self.assertEqual(torn((libs, (), (alone, ("t", "local")))), [])

    def test_a_deep_caller_a_weak_use_and_two_targets(self):
        libs = (lib("main", (), (), (WEAK_F,)), lib("c", ("t",), (), (F,)), lib("t", (), (("f", ""),)),
                lib("u", (), (("f", ""),)))
        doors = (("c", "deep"), ("u", "global"), ("c", "local"))
        # c has its own t in all its rows, but not always ahead of u
        self.assertEqual(torn((libs, (), doors)), [("c", 0, "u"), ("main", 0, "u")])
        self.assertEqual(torn((libs, (), doors[:2])), [("main", 0, "u")])
        self.assertEqual(torn((libs, (), doors + (("t", "global"),))),
                         [("c", 0, "u"), ("main", 0, "t"), ("main", 0, "u")])

    def test_a_target_that_two_doors_bring(self):
        program = ((MAIN, LEFT, RIGHT), (), (("left", "global"), ("left", "deep")))
        self.assertEqual(torn(program), [("main", 0, "left")])
        self.assertEqual(torn(((MAIN, LEFT, RIGHT), (), (("left", "local"), ("left", "deep")))), [])

    def test_ascending(self):
        libs = (lib("z", (), (), (F, G)), lib("b", (), (("f", ""), ("g", ""))), lib("a", (), (("f", ""),), (G,)))
        program = (libs, (), (("b", "global"), ("a", "global")))
        self.assertEqual(torn(program), [("a", 0, "b"), ("z", 0, "a"), ("z", 0, "b"), ("z", 1, "b")])

    def test_beside_a_search_over_all_runs(self):
        found = 0
        for program in SMALL:
            told = self.told_by_lists(torn, program)
            self.assertEqual(told, searched.torn(program), program)
            found += len(told)
        self.assertGreater(found, 40)

    def test_kinds_and_new_lists(self):
        told = torn(program=SEVEN)
        self.assertEqual([type(told)] + [type(part) for part in told], [list, tuple, tuple])
        told.clear()
        self.assertEqual(len(torn(SEVEN)), 2)


class TearingRunTest(Raising):

    def test_example(self):
        self.assertEqual(tearing_run(SEVEN, "left", 0), (
            ("open", 0), ("open", 1), ("call", "left", 0), ("close", 1), ("call", "left", 0)))
        self.assertIsNone(tearing_run(SEVEN, "left", 0, [1]))

    def test_pins_may_be_left_out_or_empty(self):
        told = tearing_run(SEVEN, "main", 0)
        self.assertEqual(told, (("open", 0), ("call", "main", 0), ("close", 0), ("call", "main", 0)))
        for pins in ([], ()):
            self.assertEqual(tearing_run(program=SEVEN, name="main", i=0, pins=pins), told)

    def test_the_least_of_several(self):
        libs = (MAIN, lib("a", (), (("f", ""),)), lib("b", (), (("f", ""),)))
        program = (libs, (), (("b", "global"), ("a", "global")))
        self.assertEqual(tearing_run(program, "main", 0),
                         (("open", 0), ("call", "main", 0), ("close", 0), ("call", "main", 0)))
        self.assertEqual(tearing_run(program, "main", 0, [0]),
                         (("open", 1), ("call", "main", 0), ("close", 1), ("call", "main", 0)))
        self.assertIsNone(tearing_run(program, "main", 0, [1, 0]))

    def test_another_door_must_hold_the_caller(self):
        libs = (lib("main"), lib("c", (), (), (F,)), lib("t", (), (("f", ""),)), lib("x", ("c", "t")))
        program = (libs, (), (("c", "deep"), ("x", "local")))
        self.assertEqual(tearing_run(program, "c", 0), (
            ("open", 0), ("open", 1), ("call", "c", 0), ("close", 1), ("call", "c", 0)))
        program = (libs, (), (("x", "local"), ("c", "deep")))
        self.assertEqual(tearing_run(program, "c", 0), (
            ("open", 0), ("call", "c", 0), ("open", 1), ("close", 0), ("call", "c", 0)))
        # the holder may be a pin: what it has stays
        self.assertEqual(tearing_run(program, "c", 0, [1]), tearing_run(program, "c", 0))
        self.assertIsNone(tearing_run(program, "c", 0, [0]))

    def test_two_doors_have_the_target(self):
        libs = (MAIN, lib("t", (), (("f", ""),)), lib("x", ("t",), (("f", "a"),)))
        program = (libs, (), (("x", "global"), ("t", "local")))
        # by door 0 x is the first one, and t is public alone only when door 1 has kept it
        self.assertEqual(tearing_run(program, "main", 0),
                         (("open", 0), ("call", "main", 0), ("close", 0), ("call", "main", 0)))
        self.assertEqual(tearing_run(program, "main", 0, [1]), tearing_run(program, "main", 0))
        self.assertIsNone(tearing_run(program, "main", 0, [0]))

    def test_beside_a_search_over_all_runs(self):
        found = {}
        for program in SMALL:
            for name, i in calls_of(program):
                for pins in model.subsets(range(len(program[2]))):
                    told = tearing_run(program, name, i, pins)
                    self.assertEqual(told, searched.tearing_run(program, name, i, pins), (program, name, i, pins))
                    if told is not None:
                        self.assertEqual((run(program, told)[-1], told[-1]), (("torn",), ("call", name, i)))
                        self.assertEqual([step for step in told if step[0] == "close" and step[1] in pins], [])
                    found[told and len(told)] = found.get(told and len(told), 0) + 1
        self.assertGreater(min(found[None], found[4], found[5]), 30, found)
        self.assertGreater(len(found), 3, found)

    def test_other_calls_do_not_matter(self):
        for program in SMALL[:12]:
            calls = calls_of(program)
            if len(calls) < 4:
                for name, i in calls:
                    self.assertEqual(tearing_run(program, name, i),
                                     searched.tearing_run(program, name, i, others=calls))

    def test_pins_in_any_order(self):
        for program in SMALL[:12]:
            every = list(range(len(program[2])))
            for name, i in calls_of(program):
                for pins in itertools.permutations(every, len(every) - 1):
                    self.assertEqual(tearing_run(program, name, i, pins), tearing_run(program, name, i, sorted(pins)))

    def test_errors_in_their_order(self):
        for i in (-1, 0, 7):
            self.raises(NoLib, "nope", tearing_run, SEVEN, "nope", i, [9])
            self.raises(NoLib, "f", tearing_run, SEVEN, "f", i)
        for i in (-1, 1, 10 ** 30):
            self.raises(NoUse, i, tearing_run, SEVEN, "main", i, [9, -1])
            self.raises(NoUse, i, tearing_run, program=SEVEN, name="main", i=i)
        self.raises(NoUse, 0, tearing_run, SEVEN, "right", 0, [2])
        for pins, worth in (([2], 2), ([-1], -1), ([0, 9, -1], 9), ([1, -10 ** 30, 7], -10 ** 30)):
            self.raises(NoDoor, worth, tearing_run, SEVEN, "main", 0, pins)
            self.raises(NoDoor, worth, tearing_run, SEVEN, "left", 0, pins=tuple(pins))

    def test_lists_and_kinds(self):
        told = self.told_by_lists(tearing_run, SEVEN, "left", 0, (0,))
        self.assertEqual([type(part) for part in (told, *told)], [tuple] * 6)


class PinsTest(Raising):

    def test_example(self):
        self.assertEqual(fewest_pins(SEVEN, [("left", 0)]), [1])
        self.assertEqual(fewest_pins(SEVEN, [("left", 0), ("main", 0)]), [0, 1])
        self.assertTrue(shows_pins(SEVEN, [("main", 0)], [0, 1]))

    def test_no_calls_and_none_that_can_be_torn(self):
        for calls in ([], ()):
            self.assertEqual(fewest_pins(SEVEN, calls), [])
            for thing in ([], [0], [1], [0, 1]):
                self.assertIs(shows_pins(SEVEN, calls, thing), True)
        safe = ((MAIN, LEFT, RIGHT), ("left", "right"), DOORS)
        self.assertEqual(fewest_pins(safe, [("main", 0), ("left", 0)]), [])

    def test_doors_that_only_one_of_the_target_has_public(self):
        libs = (MAIN, lib("t", (), (("f", ""),)))
        program = (libs, (), (("t", "local"), ("t", "global")))
        self.assertEqual(fewest_pins(program, [("main", 0)]), [1])
        self.assertEqual([shows_pins(program, [("main", 0)], pins) for pins in ([], [0], [1], [0, 1])],
                         [False, False, True, True])
        program = (libs, (), (("t", "global"), ("t", "deep"), ("t", "local")))
        self.assertEqual(fewest_pins(program, [("main", 0)]), [0])

    def test_beside_a_search_over_all_lists_of_doors(self):
        sizes = {}
        for program in SMALL:
            calls = calls_of(program)
            cases = [list(case) for many in (0, 1, 2) for case in itertools.combinations(calls, many)][:8]
            for case in cases + [calls[::-1]]:
                fitting = [pins for pins in model.subsets(range(len(program[2])))
                           if all(searched.tearing_run(program, name, i, pins) is None for name, i in case)]
                self.assertEqual(fewest_pins(program, case), fitting[0], (program, case))
                for pins in model.subsets(range(len(program[2]))):
                    self.assertIs(shows_pins(program, case, pins), pins in fitting)
                sizes[len(fitting[0])] = sizes.get(len(fitting[0]), 0) + 1
        self.assertGreater(min(sizes[0], sizes[1], sizes[2]), 10, sizes)

    def test_other_values(self):
        calls = [("main", 0)]
        self.assertIs(shows_pins(SEVEN, calls, [0]), True)
        for thing in OTHERS + ((0,), (0, 1), [1, 0], [0, 0], [0, 1, 1], [False], [False, True], [0, 2], [-1, 0],
                               [0, 1, 2], "0", [[0]], [(0,)], [0, 10 ** 30]):
            self.assertIs(shows_pins(SEVEN, calls, thing), False, thing)
        for thing in ((), [0, 0], [False], [2], [-1], None, "", [1, 0], (0,)):
            self.assertIs(shows_pins(SEVEN, [], thing), False, thing)

    def test_the_first_wrong_call(self):
        for calls, error, worth in (([("nope", 0)], NoLib, "nope"), ([("nope", -1)], NoLib, "nope"),
                                    ([("main", 1)], NoUse, 1), ([("right", 0)], NoUse, 0),
                                    ([("main", 0), ("left", -1), ("nope", 0)], NoUse, -1),
                                    ([("main", 0), ("nope", 0), ("left", 5)], NoLib, "nope")):
            self.raises(error, worth, fewest_pins, SEVEN, calls)
            self.raises(error, worth, fewest_pins, calls=tuple(calls), program=SEVEN)
            for thing in OTHERS + ([0, 1], []):
                self.raises(error, worth, shows_pins, SEVEN, calls, thing)
        self.raises(NoUse, 1, shows_pins, thing=[], calls=[("main", 1)], program=SEVEN)

    def test_lists_and_kinds(self):
        told = self.told_by_lists(fewest_pins, SEVEN, (("left", 0), ("main", 0)))
        self.assertIs(type(told), list)
        told.clear()
        self.assertEqual(fewest_pins(SEVEN, (("left", 0), ("main", 0))), [0, 1])


class SteadyOrderTest(Raising):

    def test_example(self):
        self.assertEqual(steady_order(SEVEN), (0, 1))
        self.raises(Ring, (0, 1), steady_order, RING)

    def test_no_doors_or_one(self):
        self.assertEqual(steady_order(((MAIN, LEFT, RIGHT), (), ())), ())
        self.assertEqual(steady_order(((MAIN, LEFT, RIGHT), (), (("left", "deep"),))), (0,))

    def test_the_least_order(self):
        self.assertEqual(steady_order(around("ba", "ca", "db")), (2, 3, 1, 0))
        self.assertEqual(steady_order(around("ab", "cd")), (0, 1, 2, 3))
        self.assertEqual(steady_order(around("ad", "bd", "ca")), (1, 2, 0, 3))

    def test_callers_of_the_first_row_do_not_matter(self):
        self.assertEqual(steady_order(((MAIN, LEFTER, RIGHTER), ("left",), DOORS)), (0, 1))
        self.assertEqual(steady_order(((MAIN, LEFTER, RIGHTER), ("right",), DOORS)), (0, 1))

    def test_the_shortest_ring(self):
        self.raises(Ring, (0, 1, 2), steady_order, around("ab", "bc", "ca"))
        self.raises(Ring, (0, 2, 1), steady_order, around("ac", "cb", "ba"))
        self.raises(Ring, (1, 2), steady_order, around("ab", "bc", "ca", "cb"))
        self.raises(Ring, (0, 2), steady_order, around("ac", "ca", "bd", "db"))
        self.raises(Ring, (1, 2), steady_order, around("ab", "bc", "cb", "cd", "dc"))
        self.raises(Ring, (1, 2, 3), steady_order, around("ab", "bc", "cd", "db"))
        self.raises(Ring, (0, 1, 2, 3), steady_order, around("ab", "bc", "cd", "da"))

    def test_beside_a_search_over_all_orders(self):
        found = {"ring": 0, "plain": 0, "other": 0}
        for program in [model.lively_program(seed, 3 + seed % 4, 2 + seed % 2, "fg") for seed in range(60, 130)]:
            doors = range(len(program[2]))
            ahead = searched.ahead(program)
            fitting = [order for order in itertools.permutations(doors)
                       if not any((other, one) in ahead for one, other in itertools.combinations(order, 2))]
            if fitting:
                self.assertEqual(steady_order(program), min(fitting))
                found["plain" if min(fitting) == tuple(doors) else "other"] += 1
            else:
                rings = [ring for many in doors for ring in itertools.permutations(doors, many + 1)
                         if all((ring[at - 1], ring[at]) in ahead for at in range(many + 1))]
                self.raises(Ring, searched.least(rings), steady_order, program)
                found["ring"] += 1
        self.assertGreater(min(found.values()), 2, found)

    def test_each_order_beside_all_runs(self):
        """The order tears nothing whatever was done, and no lesser one does so; with Ring none does."""
        programs = [around("ba"), around("ab", "bc"), around("ab", "ba"), around("ab", "bc", "ca"), SEVEN, RING]
        for program in programs + SMALL[:16]:
            steady = [order for order in itertools.permutations(range(len(program[2])))
                      if all(searched.tears_none(program, order, searched.steps_of(program, [call]))
                             for call in calls_of(program))]
            try:
                self.assertEqual(steady_order(program), steady[0])
            except Ring:
                self.assertEqual(steady, [])

    def test_lists_and_kinds(self):
        self.assertEqual(self.told_by_lists(steady_order, around("ba", "cb")), (2, 1, 0))
        self.assertIs(type(steady_order(program=PROGRAM)), tuple)
        with self.assertRaises(Ring) as caught:
            steady_order(RING)
        self.assertIs(type(caught.exception.doors), tuple)


if __name__ == "__main__":
    unittest.main()
