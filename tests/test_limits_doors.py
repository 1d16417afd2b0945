"""Doors, texts, the desk and sessions, with programs and texts at the limits of the document."""

import random
import unittest

import model
import written
from latebound.desk import answers
from latebound.doors import fewest_doors, idle_doors, needed, shown_by, shows_door, told_with
from latebound.errors import BadLine, BadText
from latebound.process import Process
from latebound.runs import run, told
from latebound.session import Session
from latebound.texts import program_in, program_text, run_in, run_text
from limits import NEEDS_AND_DOORS, TimedMore, uneven

DOORS = (0, 1, 2, 3)


def renamed(program):
    """The program with names of eight letters."""
    if isinstance(program, tuple):
        return tuple(renamed(part) for part in program)
    if isinstance(program, str) and program not in ("", "global", "local", "deep"):
        return (program + "zyxwvuts")[:8]
    return program


class LimitsTest(TimedMore):

    def test_told_with(self):
        for program in self.programs():
            for _, name, i in model.call_steps(program)[::4]:
                answers_told = self.timed(told_with, program, name, i, DOORS)
                self.assertEqual(self.timed(fewest_doors, program, name, i, ("away",)), None)
                for answer in answers_told + [("torn",)]:
                    fewest = self.timed(fewest_doors, program, name, i, answer)
                    every = self.timed(needed, program, name, i, answer)
                    self.assertEqual(fewest is None, answer not in answers_told)
                    self.assertEqual(every is None, answer not in answers_told)
                    if fewest is not None:
                        self.assertIn(answer, told_with(program, name, i, fewest))
                        self.assertLessEqual(set(every), set(fewest))

    def test_shown_by(self):
        for program in self.programs():
            idle = self.timed(idle_doors, program)
            for k in DOORS:
                way = self.timed(shown_by, program, k)
                self.assertEqual(way is None, k in idle)
                self.assertTrue(way is None or self.timed(shows_door, program, k, way))
            for seed in range(20):
                steps = model.random_steps(program, seed, 60)
                for k in idle:
                    self.assertFalse(shows_door(program, k, steps))

    def test_texts(self):
        for program in self.programs():
            for one in (program, renamed(program)):
                text = self.timed(program_text, one)
                self.assertEqual(self.timed(program_in, text), one)
            steps = model.random_steps(program, 1, 60)
            self.assertEqual(self.timed(run_in, self.timed(run_text, steps)), steps)

    def test_long_texts(self):
        for letter in " a|@?-;0":
            text = "\n".join([letter * 300] * 60)
            for action, error, worth in ((program_in, BadText, 0), (run_in, BadText, 0), (answers, BadLine, 0)):
                with self.assertRaises(error) as caught:
                    self.timed(action, text)
                self.assertEqual(list(vars(caught.exception).values()), [worth])

    def test_desk(self):
        for at, program in enumerate(self.programs()):
            dice = random.Random(at)
            calls = model.call_steps(program)
            requests = [run_text((step,)) for step in model.random_steps(program, at, 20)]
            for _ in range(27):
                _, name, i = dice.choice(calls)
                requests.append(dice.choice((
                    f"told {name} {i}", f"told {name} {i} with 0 2", f"needed {name} {i} torn",
                    f"fewest {name} {i} bound a@b",
                    f"fewest {name} {i} lost", f"shown {dice.choice(DOORS)}", "slots", "there", "again",
                    f"looks {name}")))
            text = program_text(program) + "\n\n" + "\n".join(requests)
            self.assertIsNone(written.bad_desk_line(text.split("\n")))
            self.assertEqual(len(text.split("\n")), 61)
            self.assertEqual(len(self.timed(answers, text)), 47)

    def test_session(self):
        for at, program in enumerate(self.programs()):
            s, process = Session(program), Process(program)
            steps = model.busy_steps(program, at)[:60]
            self.assertEqual([self.timed(told, s, step) for step in steps], run(program, steps))
            for step in steps:
                told(process, step)
            self.assertEqual(s.stand(), process.stand())
            for _, name, i in model.call_steps(program)[::5]:
                found = self.timed(s.may, name, i)
                self.assertLessEqual(set(found), set(told_with(program, name, i, DOORS)))
            many = s.many()
            self.timed(s.put, program[0][-1])
            self.timed(s.take_door, 3)
            self.timed(s.add_door, *program[2][3])
            self.timed(s.preload, (program[0][-1][0],))
            self.assertEqual(s.twin().many(), many + 4)
            for _ in range(many + 4):
                self.timed(s.undo)
            self.assertEqual((s.program(), s.stand()), (program, Process(program).stand()))


class LongSessionTest(unittest.TestCase):

    def test_a_long_run_beside_run(self):
        program = uneven(3, *NEEDS_AND_DOORS[0])
        s, steps = Session(program), model.random_steps(program, 3, 600)
        self.assertEqual([told(s, step) for step in steps], run(program, steps))


if __name__ == "__main__":
    unittest.main()
