import copy
import itertools
import unittest

import model
from latebound import walks
from latebound.process import Process
from latebound.walks import bases
from samples import DOORS, PROGRAM, lib, listed


def searched(program):
    """All bases with counts 0 and 1, by all states that opening and closing leads to, full and shut doors included."""
    found = {}
    for state, run in model.states(program, model.door_steps(program)).items():
        if 2 not in state[0]:
            found[state[:4]] = run
    return sorted(found.items(), key=lambda pair: (len(pair[1]), pair[1]))


class BasesTest(unittest.TestCase):

    def test_example(self):
        main, low = ("main", (), (), (("f", "", False), ("g", "one", True))), ("low", (), (("f", "one"), ("g", "")), ())
        mid, top = ("mid", ("low",), (("f", ""),), (("f", "two", False),)), ("top", (), (("f", "two"),), ())
        libs, doors = (main, low, mid, top), (("mid", "global"), ("top", "global"))
        self.assertEqual(len(bases((libs, (), doors))), 5)

    def test_all_of_two_doors(self):
        libs = (lib("main"), lib("a"), lib("b", ("a",)))
        told = bases((libs, (), (("a", "global"), ("b", "deep"))))
        wanted = [
            (((0, 0), (), ("main",), ()), ()),
            (((1, 0), (0,), ("main", "a"), ()), (("open", 0),)),
            (((0, 1), (1,), ("main",), ("a", "b")), (("open", 1),)),
            (((1, 1), (0, 1), ("main", "a"), ("b",)), (("open", 0), ("open", 1))),
            (((1, 1), (1, 0), ("main", "a"), ("a", "b")), (("open", 1), ("open", 0))),
            (((0, 1), (1,), ("main", "a"), ("b",)), (("open", 0), ("open", 1), ("close", 0))),
            (((1, 0), (0,), ("main", "a"), ("a",)), (("open", 1), ("open", 0), ("close", 1))),
            (((0, 1), (1,), ("main", "a"), ("a", "b")), (("open", 1), ("open", 0), ("close", 0))),
            (((1, 1), (0, 1), ("main", "a"), ("a", "b")), (("open", 1), ("open", 0), ("close", 1), ("open", 1))),
            (((1, 1), (1, 0), ("main", "a"), ("b",)), (("open", 0), ("open", 1), ("close", 0), ("open", 0))),
        ]
        self.assertEqual(sorted(told), sorted(wanted))
        self.assertEqual(told, sorted(wanted, key=lambda pair: (len(pair[1]), pair[1])))

    def test_without_doors(self):
        self.assertEqual(bases(((lib("main"), lib("a")), ("a",), ())), [(((), (), ("main", "a"), ()), ())])

    def test_defined_in_this_file(self):
        self.assertEqual(bases.__module__, walks.__name__)

    def test_beside_a_search(self):
        for seed in range(60):
            program = model.random_program(seed, libs=2 + seed % 4, doors=1 + seed % 3)
            self.assertEqual(bases(program), searched(program), program)

    def test_four_doors_beside_a_search(self):
        for seed in range(4):
            program = model.random_program(seed, libs=6, doors=4)
            self.assertEqual(bases(program), searched(program), program)

    def test_beside_all_runs_up_to_some_length(self):
        steps = model.call_steps(PROGRAM) + model.door_steps(PROGRAM)
        found = {}
        for many in range(5):
            for run in itertools.product(steps, repeat=many):
                state = model.start(PROGRAM)
                for step in run:
                    _, state = model.step_from(PROGRAM, state, step)
                if 2 not in state[0]:
                    found.setdefault(state[:4], run)
        told = [pair for pair in bases(PROGRAM) if len(pair[1]) < 5]
        self.assertEqual(told, list(found.items()))

    def test_each_run_leads_to_its_base(self):
        for program in (PROGRAM, model.random_program(7, libs=8, doors=4)):
            told = bases(program)
            self.assertEqual(told, sorted(told, key=lambda pair: (len(pair[1]), pair[1])))
            self.assertEqual(len({base for base, _ in told}), len(told))
            for base, run in told:
                process = Process(program)
                for step in run:
                    self.assertIn(process.do(step), (("opened",), ("closed",)))
                self.assertEqual(process.base(), base)

    def test_lists_and_kinds(self):
        told = bases(program=listed((PROGRAM[0], ("base",), DOORS)))
        self.assertEqual(told, bases((PROGRAM[0], ("base",), DOORS)))
        self.assertIs(type(told), list)
        for pair in told:
            base, run = pair
            for part in (pair, base, *base, run, *run):
                self.assertIs(type(part), tuple)

    def test_arguments_stay_and_results_are_new(self):
        program = listed(PROGRAM)
        kept = copy.deepcopy(program)
        told = bases(program)
        again = list(told)
        told.clear()
        self.assertEqual((bases(program), program), (again, kept))


if __name__ == "__main__":
    unittest.main()
