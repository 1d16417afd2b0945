"""Processes beside the plain model of the document's words."""

import unittest

import model
from latebound.errors import NoDoor, NoLib, NotThere, NoUse
from latebound.process import Process
from latebound.runs import run
from samples import PROGRAM, listed

STEPS = 60


def outcome(process, step):
    try:
        return process.do(step)
    except NotThere as error:
        return ("away",) if error.name == step[1] else error


class ModelTest(unittest.TestCase):

    def same(self, process, program, state):
        counts, order, public, deep, slots = state
        there = sorted(model.there_in(program, state))
        self.assertEqual(process.base(), (counts, order, public, deep))
        self.assertEqual(process.stand(), (process.base(), slots))
        self.assertEqual((process.counts(), process.opened(), process.public(), process.deep()),
                         (list(counts), list(order), list(public), list(deep)))
        self.assertEqual((process.there(), len(process)), (there, len(there)))
        self.assertEqual(repr(process), f"Process({len(order)} doors open, {len(there)} libraries)")
        for lib in program[0]:
            name = lib[0]
            if name in there:
                self.assertEqual(process.looks(name), model.looked(program, state, name))
                for i in range(len(lib[3])):
                    self.assertEqual(process.slot(name, i), model.slot_in(state, name, i))
            else:
                with self.assertRaises(NotThere):
                    process.looks(name)

    def follow(self, program, steps):
        process, state, told = Process(program), model.start(program), []
        for step in steps:
            before = process.twin()
            answer, other = model.step_from(program, state, step)
            self.assertEqual(outcome(process, step), answer, (program, step))
            self.assertEqual(process == before, state == other, (program, step))
            told.append(answer)
            state = other
            self.same(process, program, state)
            self.assertEqual(process.twin(), process)
        self.assertEqual(run(program, steps), told)
        self.assertEqual(run(listed(program), listed(steps)), told)

    def test_small_programs(self):
        for seed in range(60):
            program = model.random_program(seed, libs=2 + seed % 4, doors=1 + seed % 3)
            self.follow(program, model.random_steps(program, seed, STEPS))

    def test_programs_at_the_limits(self):
        for seed in range(40):
            program = model.random_program(seed, libs=8, doors=4, defs=6, uses=4)
            self.follow(program, model.random_steps(program, seed, STEPS))

    def test_beyond_the_limits(self):
        for seed in range(5):
            program = model.random_program(seed, libs=8, doors=7, defs=9, uses=9, symbols="fgh")
            self.follow(program, model.random_steps(program, seed, 3 * STEPS))

    def test_every_state_of_a_small_program(self):
        steps = model.call_steps(PROGRAM) + model.door_steps(PROGRAM)
        found = model.states(PROGRAM, steps, 5)
        self.assertGreater(len(found), 300)
        for state, way in found.items():
            process = Process(PROGRAM)
            for step in way:
                outcome(process, step)
            self.same(process, PROGRAM, state)

    def test_steps_that_raise_leave_no_trace(self):
        wrong = ((("open", 7), NoDoor), (("close", -1), NoDoor), (("call", "nope", 0), NoLib),
                 (("call", "main", 9), NoUse), (("call", "base", -1), (NoUse, NotThere)))
        for seed in range(20):
            process, plain = Process(PROGRAM), Process(PROGRAM)
            for step in model.random_steps(PROGRAM, seed, STEPS):
                for other, error in wrong:
                    with self.assertRaises(error):
                        process.do(other)
                    self.assertEqual(process, plain)
                self.assertEqual(outcome(process, step), outcome(plain, step))
                self.assertEqual(process, plain)


if __name__ == "__main__":
    unittest.main()
