import itertools
import unittest

import model
import searched
from latebound import doors as doors_file
from latebound.doors import fewest_doors, idle_doors, needed, shown_by, shows_door, told_with
from latebound.errors import NoDoor, NoLib, NoUse
from latebound.runs import run
from samples import OTHERS, Raising, lib, listed, nested

F, WEAK_F = ("f", "", False), ("f", "", True)
# the example of section 11 of the document
LIBS = (lib("main", (), (), (WEAK_F,)), lib("a", (), (("f", ""),)), lib("b", ("a",), (("g", ""),)))
ONE = (LIBS, (), (("a", "global"), ("b", "local"), ("b", "global")))
BOUND, NOBODY, LOST, TORN, AWAY = ("bound", "a", ""), ("nobody",), ("lost",), ("torn",), ("away",)
CALL = ("call", "main", 0)

SMALL = [model.lively_program(900 + seed, 2 + seed % 5, 1 + seed % 3, "fg" if seed % 3 else "f") for seed in range(60)]


def calls_of(program):
    return [step[1:] for step in model.call_steps(program)]


class ToldTest(Raising):

    def test_example(self):
        self.assertEqual(told_with(ONE, "main", 0, (0,)), [BOUND, NOBODY, TORN])
        self.assertEqual(told_with(ONE, "main", 0, (1,)), [NOBODY])
        self.assertEqual(fewest_doors(ONE, "main", 0, TORN), [0])
        self.assertEqual((needed(ONE, "main", 0, TORN), needed(ONE, "main", 0, ("bound", "b", ""))), ([], None))

    def test_defined_in_this_file(self):
        for function in (told_with, fewest_doors, needed, shown_by, shows_door, idle_doors):
            self.assertEqual(function.__module__, doors_file.__name__)

    def test_no_doors_and_all(self):
        self.assertEqual(told_with(ONE, "main", 0, ()), [NOBODY])
        self.assertEqual(told_with(ONE, "main", 0, (0, 1, 2)), [BOUND, NOBODY, TORN])
        preloaded = (LIBS, ("b",), ONE[2])
        for doors in model.subsets(range(3)):
            self.assertEqual(told_with(preloaded, "main", 0, doors), [BOUND])

    def test_a_library_that_does_not_come(self):
        libs = (lib("main"), lib("c", (), (), (F,)), lib("t", (), (("f", ""),)))
        program = (libs, (), (("t", "global"), ("c", "deep")))
        told = [told_with(program, "c", 0, doors) for doors in ((), (0,), (1,), (0, 1))]
        self.assertEqual(told, [[], [], [LOST], [("bound", "t", ""), LOST, TORN]])
        self.assertEqual([fewest_doors(program, "c", 0, answer) for answer in (LOST, TORN, NOBODY, ("bound", "t", ""))],
                         [[1], [0, 1], None, [0, 1]])
        self.assertEqual([needed(program, "c", 0, answer) for answer in (LOST, TORN, NOBODY, ("bound", "t", ""))],
                         [[1], [0, 1], None, [0, 1]])

    def test_answers_that_never_come(self):
        for answer in (AWAY, LOST, ("opened",), ("bound", "a", "v"), ("bound", "nope", ""), ("bound", "main", "")):
            self.assertEqual((fewest_doors(ONE, "main", 0, answer), needed(ONE, "main", 0, answer)), (None, None))
            self.assertEqual(fewest_doors(ONE, "main", 0, list(answer)), None)

    def test_the_least_of_several_and_which_are_needed(self):
        self.assertEqual(fewest_doors(ONE, "main", 0, NOBODY), [])
        self.assertEqual(fewest_doors((LIBS, (), ONE[2][::-1]), "main", 0, BOUND), [0])
        self.assertEqual(fewest_doors((LIBS, (), ONE[2][1:]), "main", 0, TORN), [1])
        self.assertEqual(needed((LIBS, (), ONE[2][1:]), "main", 0, TORN), [1])
        self.assertEqual((needed(ONE, "main", 0, BOUND), needed(ONE, "main", 0, NOBODY)), ([], []))

    def test_beside_a_search_over_all_runs(self):
        sizes, needs = {}, {}
        for program in SMALL:
            every = list(range(len(program[2])))
            for name, i in calls_of(program):
                told = {tuple(doors): searched.told(program, name, i, doors) for doors in model.subsets(every)}
                for doors in told:
                    self.assertEqual(told_with(program, name, i, doors), told[doors], (program, name, i, doors))
                for answer in told[tuple(every)] + [AWAY, LOST, ("bound", "a", "")]:
                    fewest = next((list(doors) for doors in told if answer in told[doors]), None)
                    self.assertEqual(fewest_doors(program, name, i, answer), fewest)
                    wanted = None
                    if fewest is not None:
                        wanted = [k for k in every if answer not in told[tuple(other for other in every if other != k)]]
                    self.assertEqual(needed(program, name, i, answer), wanted)
                    for found, value in ((sizes, fewest), (needs, wanted)):
                        key = None if value is None else len(value)
                        found[key] = found.get(key, 0) + 1
        for found in (sizes, needs):
            self.assertGreater(min(found.get(key, 0) for key in (None, 0, 1, 2)), 10, found)

    def test_errors_in_their_order(self):
        for i in (-1, 0, 7):
            self.raises(NoLib, "nope", told_with, ONE, "nope", i, (9,))
            for function in (fewest_doors, needed):
                self.raises(NoLib, "nope", function, ONE, "nope", i, AWAY)
                self.raises(NoLib, "f", function, program=ONE, name="f", i=i, answer=LOST)
        for name, i in (("main", 1), ("main", -1), ("a", 0), ("b", 10 ** 30)):
            self.raises(NoUse, i, told_with, ONE, name, i, (-1, 9))
            self.raises(NoUse, i, told_with, ONE, name, i, ())
            for function in (fewest_doors, needed):
                self.raises(NoUse, i, function, ONE, name, i, AWAY)
        for doors, worth in (((3,), 3), ((-1,), -1), ((-2, 0, 9), -2), ((0, 1, 4, 10 ** 30), 4),
                             ((-10 ** 30, 5), -10 ** 30)):
            self.raises(NoDoor, worth, told_with, ONE, "main", 0, doors)
            self.raises(NoDoor, worth, told_with, doors=list(doors), i=0, name="main", program=ONE)

    def test_lists_and_kinds(self):
        told = self.told_by_lists(told_with, ONE, "main", 0, (0, 1))
        self.assertEqual([type(told)] + [type(part) for part in told], [list, tuple, tuple, tuple])
        told.clear()
        self.assertEqual(len(told_with(ONE, "main", 0, (0, 1))), 3)
        for function in (fewest_doors, needed):
            for answer in (BOUND, TORN, NOBODY):
                found = self.told_by_lists(function, ONE, "main", 0, answer)
                self.assertIs(type(found), list)
        fewest_doors(ONE, "main", 0, TORN).clear()
        self.assertEqual(fewest_doors(ONE, "main", 0, answer=TORN), [0])


class ShownTest(Raising):

    def test_example(self):
        self.assertEqual(shown_by(ONE, 0), (("open", 0), CALL))
        self.assertEqual(shown_by(ONE, 1), (("open", 0), ("open", 1), ("close", 0), CALL))
        self.assertEqual(idle_doors(ONE), [])

    def test_idle(self):
        # what only this door brings is away in the rest
        libs = (lib("main"), lib("c", (), (), (F,)), lib("t", (), (("f", ""),)))
        self.assertEqual(idle_doors((libs, (), (("c", "global"),))), [0])
        self.assertEqual(idle_doors((libs, (), (("t", "global"), ("c", "local")))), [1])
        self.assertEqual(idle_doors((libs, (), (("t", "local"), ("t", "deep"), ("c", "local")))), [0, 1, 2])
        self.assertEqual(idle_doors((libs, ("t",), (("t", "global"), ("c", "local")))), [0, 1])
        self.assertEqual(idle_doors(((lib("main"),), (), ())), [])
        self.assertIsNone(shown_by((libs, (), (("c", "global"),)), 0))

    def test_a_door_that_only_keeps_a_caller(self):
        # nobody was found, and that is kept as long as c is there: by door 1 alone
        libs = (lib("main"), lib("c", (), (), (WEAK_F,)), lib("t", (), (("f", ""),)))
        program = (libs, (), (("c", "local"), ("c", "deep"), ("t", "global")))
        way = shown_by(program, 1)
        self.assertEqual(way, searched.shown_by(program, 1, [("c", 0)]))
        self.assertEqual([step for step in way if step[0] == "call"], [("call", "c", 0)] * 2)

    def test_a_door_that_only_keeps_a_target(self):
        libs = (lib("main", (), (), (F,)), lib("t", (), (("f", ""),)))
        program = (libs, (), (("t", "global"), ("t", "local")))
        self.assertEqual(shown_by(program, 1), (("open", 0), ("open", 1), ("close", 0), CALL))

    def test_beside_a_search_over_all_runs(self):
        found = {}
        for at, program in enumerate(SMALL):
            if len(program[2]) == 3 and at % 2:
                continue
            told = []
            for k in range(len(program[2])):
                wanted = searched.least([way for way in (searched.shown_by(program, k, [call])
                                                         for call in calls_of(program)) if way])
                self.assertEqual(shown_by(program, k), wanted, (program, k))
                told += [k] if wanted is None else []
                calls = wanted and sum(step[0] == "call" for step in wanted)
                found[calls] = found.get(calls, 0) + 1
                if wanted is not None:
                    self.assertTrue(shows_door(program, k, wanted))
            self.assertEqual(idle_doors(program), told)
        self.assertGreater(min(found[None], found[1]), 15, found)
        self.assertGreater(found[2], 0, found)

    def test_with_two_calls(self):
        two = 0
        for seed in range(300):
            program = model.lively_program(seed, 3 + seed % 2, 2, "f")
            for k in range(len(program[2])):
                wanted = searched.least([way for way in (searched.shown_by(program, k, [call])
                                                         for call in calls_of(program)) if way])
                self.assertEqual(shown_by(program, k), wanted)
                two += wanted is not None and sum(step[0] == "call" for step in wanted) == 2
        self.assertGreater(two, 2, two)

    def test_other_calls_do_not_matter(self):
        for program in SMALL:
            if len(program[2]) < 3 and len(calls_of(program)) < 4:
                for k in range(len(program[2])):
                    self.assertEqual(shown_by(program, k), searched.shown_by(program, k, calls_of(program)))

    def test_beside_all_short_runs(self):
        for program in [ONE] + SMALL[:10]:
            steps = searched.all_steps(program)
            for k in range(len(program[2])):
                told = shown_by(program, k)
                for many in range(1, 4 if len(steps) < 9 else 3):
                    shown = [way for way in itertools.product(steps, repeat=many) if shows(program, k, way)]
                    if shown:
                        self.assertEqual(told, shown[0])
                        break
                else:
                    self.assertTrue(told is None or len(told) > 2)

    def test_no_door(self):
        for k in (-1, 3, 10 ** 30, -10 ** 30):
            self.raises(NoDoor, k, shown_by, ONE, k)
            self.raises(NoDoor, k, shown_by, k=k, program=ONE)
            for thing in OTHERS + ((), (CALL,), (("open", 0), CALL)):
                self.raises(NoDoor, k, shows_door, ONE, k, thing)

    def test_lists_and_kinds(self):
        told = self.told_by_lists(shown_by, ONE, 1)
        self.assertEqual([type(part) for part in (told, *told)], [tuple] * 5)
        self.assertEqual(self.told_by_lists(idle_doors, ONE), [])
        self.assertIs(type(idle_doors(program=ONE)), list)


def shows(program, k, thing):
    """What the document says of a RUN."""
    if not thing or thing[-1][0] != "call":
        return False
    rest = tuple(step for step in thing if step[0] == "call" or step[1] != k)
    told = run(program, rest)[-1]
    return told != AWAY and run(program, thing)[-1] != told


class ShowsDoorTest(Raising):

    def test_what_shown_by_tells_and_changes_of_it(self):
        shown = {True: 0, False: 0}
        for program in SMALL:
            steps = searched.all_steps(program)
            for k in range(len(program[2])):
                way = shown_by(program, k)
                if way is None:
                    continue
                self.assertIs(shows_door(program, k, way), True)
                others = [way[:at] + way[at + 1:] for at in range(len(way))]
                others += [way[:at] + way[at:at + 1] + way[at:] for at in range(len(way))]
                others += [way[:at] + (way[at + 1], way[at]) + way[at + 2:] for at in range(len(way) - 1)]
                others += [way[:at] + (step,) + way[at + many:] for at in range(len(way)) for step in steps
                           for many in (0, 1)]
                others += [way + (step,) for step in steps] + [way * 2]
                for thing in others:
                    for door in range(len(program[2])):
                        wanted = shows(program, door, thing)
                        self.assertIs(shows_door(program, door, thing), wanted, (program, door, thing))
                        shown[wanted] += 1
        self.assertGreater(min(shown.values()), 500, shown)

    def test_a_step_changed_in_kind(self):
        way = (("open", 0), ("open", 1), ("close", 0), CALL)
        self.assertIs(shows_door(ONE, 1, way), True)
        for at in range(4):
            for word in ("open", "close", "call"):
                for step in ((word, 0), (word, 1), (word, "main", 0)):
                    thing = way[:at] + (step,) + way[at + 1:]
                    valid = all(len(part) == (3 if part[0] == "call" else 2) for part in thing)
                    self.assertIs(shows_door(ONE, 1, thing), valid and shows(ONE, 1, thing), thing)

    def test_other_values(self):
        way = (("open", 0), CALL)
        self.assertIs(shows_door(ONE, 0, way), True)
        for thing in OTHERS + ((), list(way), listed(way), (way,), CALL, (list(way[0]), CALL), (way[0], list(CALL)),
                               (("open", 3), CALL), (("open", False), CALL), (("open", 0), ("call", "main", False)),
                               (("open", 0), ("call", "main", 1)), (("open", 0), ("call", "nope", 0)), way + (None,),
                               (None,) + way, nested(way, 10), way[:1], (CALL, way[0]), ("open", "call")):
            self.assertIs(shows_door(ONE, 0, thing), False, thing)

    def test_of_any_length(self):
        way = (("open", 1), ("close", 1)) * 300 + (("open", 0), CALL)
        self.assertIs(shows_door(ONE, 0, way), True)
        self.assertIs(shows_door(ONE, 1, way), False)

    def test_lists_and_names(self):
        self.assertIs(shows_door(thing=(("open", 0), CALL), k=0, program=listed(ONE)), True)


if __name__ == "__main__":
    unittest.main()
