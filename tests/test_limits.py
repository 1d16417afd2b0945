"""Programs at the limits of the document: each function must answer within a few seconds."""

import unittest

import model
from latebound.binds import always, bindings, dead, fewest_hides, hides, shows_answer, without
from latebound.data import is_program
from latebound.process import Process
from latebound.runs import run
from latebound.walks import bases
from limits import MANY, NEEDS_AND_DOORS, USES, Timed, big


class LimitsTest(Timed):

    def test_bases(self):
        for program in self.programs():
            self.assertTrue(is_program(program))
            told = self.timed(bases, program)
            self.assertEqual(len({base for base, _ in told}), len(told))
            for base, way in told[:50] + told[-50:]:
                process = Process(program)
                for step in way:
                    process.do(step)
                self.assertEqual(process.base(), base)

    def test_answers(self):
        for program in self.programs():
            for name, i in (("main", 0), ("main", 1), ("a", 0), ("c", 2), ("g", 3)):
                told = self.timed(bindings, program, name, i)
                for answer, way in told:
                    self.assertEqual(run(program, way)[-1], answer)
                    self.assertTrue(shows_answer(program, name, i, answer, way))
                self.assertEqual(self.timed(always, program, name, i), told[0][0] if len(told) == 1 else None)

    def test_dead(self):
        for program in self.programs():
            told = self.timed(dead, program)
            live = set()
            for _, name, i in model.call_steps(program):
                symbol = model.lib_of(program, name)[3][i][0]
                found = [answer for answer, _ in bindings(program, name, i)]
                live |= {(answer[1], symbol, answer[2]) for answer in found if answer[0] == "bound"}
            self.assertEqual(told, sorted(set(model.all_definitions(program)) - live))

    def test_hides(self):
        for program in self.programs():
            wants = [(name, i, ("nobody",) if model.lib_of(program, name)[3][i][2] else ("lost",))
                     for _, name, i in model.call_steps(program)]
            gone = self.timed(hides, program, wants)
            for name, i, answer in (wants[0], wants[5], wants[-1]):
                self.assertEqual(always(without(program, gone), name, i), answer)
            for want in wants[:3]:
                self.timed(hides, program, [want])

    def test_fewest_hides(self):
        for program in self.programs():
            for calls in ([("main", 0), ("main", 1), ("main", 2)], [("a", 0), ("c", 1), ("main", 3)],
                          [("g", 0), ("g", 1), ("g", 2)]):
                gone, told = self.timed(fewest_hides, program, calls)
                self.assertEqual(told, tuple(always(without(program, gone), name, i) for name, i in calls))


class LongRunTest(unittest.TestCase):

    def test_runs_far_beyond_the_limits(self):
        needs, doors = NEEDS_AND_DOORS[0]
        program = big(needs, doors, MANY, USES)
        steps = model.random_steps(program, 1, 3000)
        told = run(program, steps)
        state = model.start(program)
        for step, answer in zip(steps, told, strict=True):
            wanted, state = model.step_from(program, state, step)
            self.assertEqual(answer, wanted)


if __name__ == "__main__":
    unittest.main()
