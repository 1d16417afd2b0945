import itertools
import random
import unittest

import model
import searched
from latebound import alike as alike_file
from latebound.alike import alike, classes, commute, orders, shows_unlike
from latebound.errors import NoDoor
from latebound.runs import run
from samples import OTHERS, Raising, lib, listed, nested

APP = lib("main", (), (), (("f", "", False), ("g", "", True)))
A, B, C = lib("a", (), (("f", ""),)), lib("b", (), (("f", ""),)), lib("c", (), (("g", ""),))
# the example of section 9 of the document
THREE = ((APP, A, B, C), (), (("a", "global"), ("b", "global"), ("c", "global")))
O0, O1, O2, C0, C1 = ("open", 0), ("open", 1), ("open", 2), ("close", 0), ("close", 1)
CALL, OTHER_CALL = ("call", "main", 0), ("call", "main", 1)

SMALL = [program for program in (model.lively_program(seed, 2 + seed % 5, 1 + seed % 3, "fg" if seed % 3 else "f")
                                 for seed in range(200, 290))
         if len(model.call_steps(program)) < 6 and len(searched.bases(program)) <= 20]


def pairs_of_runs(program, seed):
    """Pairs of runs of this program, many of them with the same counts at their ends."""
    dice = random.Random(seed)
    for at in range(12):
        one = model.random_steps(program, dice.random(), dice.randint(0, 6))
        if at % 3 == 0:
            one = model.busy_steps(program, seed + at)
        other = tuple(dice.sample(one, len(one)))
        if at % 3 == 1:
            other = tuple(step for step in one if step[0] != "call" or dice.random() < 0.5)
        if at % 6 == 5:
            other = model.random_steps(program, dice.random(), dice.randint(0, 6))
        yield one, other


def are_alike(program):
    return lambda one, other: searched.unlike_run(program, one, other) is None


class AlikeTest(Raising):

    def test_example(self):
        self.assertEqual(alike(THREE, [O0, O1], [O1, O0]), (CALL,))
        self.assertIsNone(alike(THREE, [O0, O2], [O2, O0]))
        self.assertEqual(alike(THREE, [O0, CALL], [O0]), (C0, CALL))
        self.assertEqual(alike(THREE, [O0], [O0, O0]), (O0,))

    def test_defined_in_this_file(self):
        for function in (alike, shows_unlike, classes, orders, commute):
            self.assertEqual(function.__module__, alike_file.__name__)

    def test_equal_stands(self):
        for steps in ((), (O0,), (O0, CALL, O1, O1), (O0, CALL, C0)):
            self.assertIsNone(alike(THREE, steps, steps))
        self.assertIsNone(alike(THREE, (), (O0, C0, C1, O2, ("close", 2), CALL)))
        self.assertIsNone(alike(THREE, (O0,), (CALL, O1, C1, O0)))

    def test_counts_alone(self):
        plain = ((lib("main"), A), (), (("a", "local"), ("a", "deep")))
        self.assertEqual(alike(plain, (), (O0,)), (C0,))
        self.assertEqual(alike(plain, (O0,), (O0, O0)), (O0,))
        self.assertEqual(alike(plain, (), (O1, O1)), (C1,))
        self.assertEqual(alike(plain, (O1,), (O1, O1)), (O1,))
        self.assertEqual(alike(plain, (O0, O1, O1), (O0, O0, O1)), (O0,))
        self.assertEqual(alike(plain, (O1,), (O0,)), (C0,))
        self.assertIsNone(alike(plain, (O0, O1), (O1, O0)))

    def test_a_call_is_less_than_an_open_or_a_close(self):
        self.assertEqual(alike(THREE, (), (O0,)), (CALL,))
        self.assertEqual(alike(THREE, (O0,), (O0, O0, O2)), (OTHER_CALL,))
        libs = (lib("main"), lib("b", (), (), (("f", "", True),)), lib("a", (), (), (("f", "", True),)))
        doors = (("b", "local"), ("a", "local"))
        self.assertEqual(alike((libs, (), doors), (O0,), (O1,)), (("call", "a", 0),))

    def test_slots(self):
        both, torn = (O0, CALL, O1), (O0, CALL, C0, O0)
        self.assertEqual(alike(THREE, torn, (O0,)), (CALL,))
        self.assertEqual(alike(THREE, torn, (O0, CALL)), (CALL,))
        self.assertIsNone(alike(THREE, torn, torn))
        # bound to a or to b
        self.assertEqual(alike(THREE, both, (O1, CALL, O0)), (CALL,))
        # nobody was found, and is kept
        self.assertEqual(alike(THREE, (OTHER_CALL,), ()), (O2, OTHER_CALL))
        self.assertEqual(alike(THREE, (OTHER_CALL, O2), (O2,)), (OTHER_CALL,))
        # lost is not kept
        self.assertIsNone(alike(THREE, (CALL,), ()))

    def test_a_slot_that_never_matters(self):
        # whoever is bound to a library of the first row could as well be unbound
        program = ((APP, A, B, C), ("a",), THREE[2])
        self.assertIsNone(alike(program, (CALL,), ()))
        self.assertIsNone(alike(program, (O1, CALL), (O1,)))
        self.assertEqual(alike(program, (O2, OTHER_CALL), (O2,)), (("close", 2), OTHER_CALL))

    def test_a_slot_that_matters_only_when_another_door_is_open(self):
        libs = (lib("main"), lib("c", (), (), (("f", "", True),)), lib("t", (), (("f", ""),)))
        program = (libs, (), (("c", "local"), ("t", "global")))
        self.assertEqual(alike(program, (O0, ("call", "c", 0)), (O0,)), (O1, ("call", "c", 0)))
        self.assertIsNone(alike((libs, (), program[2][:1]), (O0, ("call", "c", 0)), (O0,)))

    def test_doors_that_are_open_twice_in_both(self):
        twice = [O0, O0, O1, O1]
        self.assertEqual(alike(THREE, twice + [CALL], twice), (C0, C0, CALL))

    def test_beside_a_search_over_all_pairs_of_stands(self):
        found = {}
        for seed, program in enumerate(SMALL[:48]):
            for one, other in pairs_of_runs(program, seed):
                told = alike(program, one, other)
                states = [searched.state_behind(program, steps) for steps in (one, other)]
                self.assertEqual(told, searched.unlike_run(program, *states), (program, one, other))
                key = "equal" if states[0] == states[1] else told and len(told)
                found[key] = found.get(key, 0) + 1
        for key in ("equal", None, 1, 2, 3):
            self.assertGreater(found.get(key, 0), 4, found)

    def test_beside_all_short_runs(self):
        for seed, program in enumerate(SMALL[:8]):
            steps = searched.all_steps(program)
            for one, other in pairs_of_runs(program, 100 + seed):
                told = alike(program, one, other)
                for many in range(1, 4 if len(steps) < 9 else 3):
                    unlike = [way for way in itertools.product(steps, repeat=many)
                              if run(program, one + way)[-1] != run(program, other + way)[-1]]
                    if unlike:
                        self.assertEqual(told, unlike[0])
                        break
                else:
                    self.assertTrue(told is None or len(told) > 2)

    def test_lists_and_kinds(self):
        told = self.told_by_lists(alike, THREE, (O0, CALL), (O0,))
        self.assertEqual([type(part) for part in (told, *told)], [tuple] * 3)
        self.assertEqual(alike(other=[O0], one=[O0, CALL], program=THREE), told)


class ShowsUnlikeTest(Raising):

    def shows(self, program, one, other, thing):
        """What the document says of a RUN."""
        told = [run(program, steps + thing)[len(steps):] for steps in (one, other)]
        return len(thing) > 0 and told[0][:-1] == told[1][:-1] and told[0][-1] != told[1][-1]

    def test_example(self):
        self.assertIs(shows_unlike(THREE, [O0, CALL], [O0], (C0, CALL)), True)
        self.assertIs(shows_unlike(THREE, [O0, CALL], [O0], (CALL,)), False)
        self.assertIs(shows_unlike(THREE, (), (), ()), False)

    def test_what_alike_tells_and_changes_of_it(self):
        shown = {True: 0, False: 0}
        for seed, program in enumerate(SMALL[:30]):
            steps = searched.all_steps(program)
            for one, other in list(pairs_of_runs(program, seed))[:8]:
                way = alike(program, one, other)
                if way is None:
                    continue
                self.assertIs(shows_unlike(program, one, other, way), True)
                others = [way[:at] + way[at + 1:] for at in range(len(way))]
                others += [way[:at] + way[at:at + 1] + way[at:] for at in range(len(way))]
                others += [way[:at] + (step,) + way[at + many:] for at in range(len(way)) for step in steps
                           for many in (0, 1)]
                # it tells apart earlier, or behind a step that changes nothing
                others += [way + way[-1:], way * 2, way + (steps[0],)]
                for thing in others:
                    wanted = self.shows(program, one, other, thing)
                    self.assertIs(shows_unlike(program, one, other, thing), wanted, (program, one, other, thing))
                    shown[wanted] += 1
        self.assertGreater(min(shown.values()), 300, shown)

    def test_other_values(self):
        way = (C0, CALL)
        for thing in OTHERS + (list(way), listed(way), [C0, CALL], (list(C0), CALL), (C0, list(CALL)), (way,), CALL, C0,
                               ("close", "call"), (C0, ("call", "main", 2)), (C0, ("call", "main", False)),
                               (("close", False), CALL), (("close", 3), CALL), (C0, ("call", "nope", 0)),
                               (C0, CALL, None), (None, C0, CALL), nested(way, 10), (C0, ("call", "main", 0, 0))):
            self.assertIs(shows_unlike(THREE, (O0, CALL), (O0,), thing), False, thing)

    def test_of_any_length(self):
        way = (O1, C1) * 400 + (C0, CALL)
        self.assertIs(shows_unlike(THREE, (O0, CALL), (O0,), way), True)
        self.assertIs(shows_unlike(THREE, (O0, CALL), (O0,), way[:-1]), False)

    def test_lists(self):
        self.assertIs(shows_unlike(listed(THREE), listed((O0, CALL)), listed((O0,)), (C0, CALL)), True)
        self.assertIs(shows_unlike(thing=(C0, CALL), other=(O0,), one=(O0, CALL), program=THREE), True)


class ClassesTest(Raising):

    def test_example(self):
        told = classes(THREE)
        self.assertEqual((len(told), told[4], told[5]), (10, [(O0, O1)], [(O0, O2), (O2, O0)]))

    def test_without_doors(self):
        self.assertEqual(classes(((APP, A), (), ())), [[()]])

    def test_order_of_the_lists_and_within_them(self):
        plain = ((lib("main"), A, B), (), (("b", "global"), ("a", "global")))
        self.assertEqual(classes(plain), [[()], [(O0,)], [(O1,)], [(O0, O1), (O1, O0)]])
        libs = (lib("main", (), (), (("f", "", True),)), lib("a", ("b",)), lib("b", (), (("f", ""),)))
        told = classes((libs, (), (("a", "global"), ("b", "local"))))
        # a gives nothing, so it does not matter whether b is public ahead of it or behind
        ahead = (O0, O1, C0, O0)
        self.assertEqual(told, [[()], [(O0,), ahead + (C1,)], [(O1,)], [(O0, O1), (O1, O0), ahead, ahead + (C1, O1)],
                                [(O0, O1, C0)]])

    def test_public_in_another_order_may_never_matter(self):
        # b is always there when a is, and stands ahead; then it does not matter whether a is public
        libs = (lib("main", ("b",), (), (("f", "", False),)), A, B)
        self.assertEqual(classes((libs, (), (("a", "global"), ("a", "local")))),
                         [[()], [(O0,)], [(O1,), (O0, O1, C0)], [(O0, O1), (O1, O0)]])

    def test_beside_a_search_over_all_pairs(self):
        joined = 0
        for program in SMALL[:36]:
            told = self.told_by_lists(classes, program)
            self.assertEqual(told, searched.in_lists(searched.bases(program), are_alike(program)), program)
            joined += len(told) < len(searched.bases(program))
        self.assertGreater(joined, 10)

    def test_larger_programs_beside_alike(self):
        for seed in range(400, 404):
            program = model.lively_program(seed, 6, 3, "fg")
            told = classes(program)
            ways = [way for group in told for way in group]
            self.assertEqual(sorted(ways), sorted(way for _, way in searched.bases(program)))
            firsts = [group[0] for group in told]
            self.assertEqual(firsts, sorted(firsts, key=lambda way: (len(way), way)))
            for group in told:
                self.assertEqual(group, sorted(group, key=lambda way: (len(way), way)))
                for way in group[1:3]:
                    self.assertIsNone(alike(program, group[0], way))
            for one, other in list(itertools.combinations(firsts, 2))[:200]:
                self.assertIsNotNone(alike(program, one, other))

    def test_kinds_and_new_lists(self):
        told = classes(program=THREE)
        self.assertEqual([type(told), type(told[5]), type(told[5][0])], [list, list, tuple])
        told[5].clear()
        told.clear()
        self.assertEqual(len(classes(THREE)), 10)
        self.assertEqual(len(classes(THREE)[5]), 2)


class OrdersTest(Raising):

    def test_example(self):
        self.assertEqual(orders(THREE, (0, 1)), [[(0, 1)], [(1, 0)]])

    def test_none_one_and_all(self):
        self.assertEqual(orders(THREE, ()), [[()]])
        self.assertEqual(orders(THREE, (1,)), [[(1,)]])
        self.assertEqual(orders(THREE, (0, 2)), [[(0, 2), (2, 0)]])
        self.assertEqual(orders(THREE, (0, 1, 2)), [[(0, 1, 2), (0, 2, 1), (2, 0, 1)],
                                                    [(1, 0, 2), (1, 2, 0), (2, 1, 0)]])

    def test_beside_a_search_over_all_pairs(self):
        for program in SMALL[:40]:
            for doors in model.subsets(range(len(program[2]))):
                ends = [(searched.state_behind(program, [("open", k) for k in order]), order)
                        for order in itertools.permutations(doors)]
                told = orders(program, tuple(doors))
                self.assertEqual(told, searched.in_lists(ends, are_alike(program)), (program, doors))

    def test_no_door(self):
        for doors, worth in (((3,), 3), ((-1,), -1), ((0, 1, 5, 9), 5), ((-3, -1, 0), -3), ((-2, 0, 7), -2),
                             ((2, 10 ** 30), 10 ** 30)):
            self.raises(NoDoor, worth, orders, THREE, doors)
            self.raises(NoDoor, worth, orders, doors=list(doors), program=THREE)

    def test_lists_and_kinds(self):
        told = self.told_by_lists(orders, THREE, (0, 2))
        self.assertEqual([type(told), type(told[0]), type(told[0][0])], [list, list, tuple])
        self.assertEqual(orders(doors=[0, 2], program=THREE), told)


class CommuteTest(Raising):

    def test_example(self):
        self.assertIsNone(commute(THREE, 0, 2))
        self.assertEqual(commute(THREE, 0, 1), ((), (CALL,)))

    def test_a_door_with_itself(self):
        for k in (0, 1, 2):
            self.assertIsNone(commute(THREE, k, k))

    def test_the_first_base(self):
        # only what public has already makes the order of the others matter
        libs = (lib("main", (), (), (("f", "", True),)), lib("c", (), (), (("f", "", False),)), A, lib("x", ("c", "a")),
                lib("y", ("c", "b")), B)
        program = (libs, (), (("x", "local"), ("y", "local"), ("c", "local")))
        self.assertEqual(commute(program, 0, 1), ((), (("call", "c", 0),)))
        # c comes deep or not by the first of both; without a row that has more it is the same
        deep = (libs, (), (("c", "local"), ("c", "deep"), ("x", "local"), ("b", "global")))
        self.assertEqual(commute(deep, 0, 1), ((), (O2, ("open", 3), ("call", "c", 0))))
        self.assertIsNone(commute((libs, (), deep[2][:2]), 0, 1))

    def test_beside_a_search_over_all_bases(self):
        found = {"none": 0, "first": 0, "later": 0}
        programs = SMALL[:40] + [model.lively_program(seed, 4, 3, "f") for seed in range(30)]
        for program in programs:
            bases = searched.bases(program)
            if len(bases) > 40 or len(model.call_steps(program)) > 5:
                continue
            for one, other in itertools.permutations(range(len(program[2])), 2):
                wanted = None
                for state, way in bases:
                    if wanted is None and state[0][one] == state[0][other] == 0:
                        opens = (("open", one), ("open", other))
                        ends = [searched.state_behind(program, way + both) for both in (opens, opens[::-1])]
                        unlike = searched.unlike_run(program, *ends)
                        wanted = unlike and (way, unlike)
                self.assertEqual(commute(program, one, other), wanted, (program, one, other))
                found["none" if wanted is None else "later" if wanted[0] else "first"] += 1
        self.assertGreater(min(found["none"], found["first"]), 20, found)
        self.assertGreater(found["later"], 1, found)

    def test_no_door(self):
        for first, second, worth in ((3, 0, 3), (0, 3, 3), (-1, 7, -1), (7, -1, 7), (5, 5, 5), (-1, -1, -1),
                                     (1, -4, -4), (10 ** 30, 0, 10 ** 30)):
            self.raises(NoDoor, worth, commute, THREE, first, second)
            self.raises(NoDoor, worth, commute, second=second, first=first, program=THREE)

    def test_lists_and_kinds(self):
        told = self.told_by_lists(commute, THREE, 1, 0)
        self.assertEqual(told, ((), (CALL,)))
        self.assertEqual([type(part) for part in (told, *told)], [tuple] * 3)


if __name__ == "__main__":
    unittest.main()
