import copy
import unittest

from latebound import runs
from latebound.errors import NoDoor, NoLib, NoUse
from latebound.process import Process
from latebound.runs import run
from samples import PROGRAM, listed


class RunTest(unittest.TestCase):

    def test_examples(self):
        steps = (("call", "main", 1), ("open", 2), ("call", "one", 0), ("open", 1), ("open", 1), ("open", 1),
                 ("call", "main", 1), ("call", "two", 0))
        self.assertEqual(run(PROGRAM, steps), [("nobody",), ("opened",), ("bound", "one", "a"), ("opened",),
                                               ("opened",), ("full",), ("nobody",), ("bound", "base", "")])
        self.assertEqual(run(PROGRAM, (("call", "one", 0), ("close", 0))), [("away",), ("shut",)])

    def test_defined_in_this_file(self):
        self.assertEqual(run.__module__, runs.__name__)

    def test_no_step(self):
        for steps in ((), []):
            self.assertEqual(run(PROGRAM, steps), [])

    def test_lists_and_names(self):
        steps = (("open", 0), ("call", "one", 0))
        self.assertEqual(run(steps=listed(steps), program=listed(PROGRAM)), [("opened",), ("bound", "one", "a")])
        self.assertEqual(run(PROGRAM, [["open", 1], ("close", 1)]), [("opened",), ("closed",)])
        self.assertIs(type(run(PROGRAM, steps)), list)
        self.assertEqual([type(answer) for answer in run(listed(PROGRAM), listed(steps))], [tuple, tuple])

    def test_away_changes_nothing(self):
        steps = (("call", "one", 0), ("open", 0), ("call", "one", 0), ("close", 0), ("call", "one", 0), ("open", 1),
                 ("open", 0), ("call", "one", 0))
        self.assertEqual(run(PROGRAM, steps), [("away",), ("opened",), ("bound", "one", "a"), ("closed",), ("away",),
                                               ("opened",), ("opened",), ("bound", "one", "a")])

    def test_refused_steps_in_a_run(self):
        steps = (("close", 0), ("open", 0), ("open", 0), ("open", 0), ("call", "two", 0), ("close", 1), ("close", 0),
                 ("call", "main", 0), ("close", 0), ("close", 0), ("call", "main", 0))
        self.assertEqual(run(PROGRAM, steps), [("shut",), ("opened",), ("opened",), ("full",), ("away",), ("shut",),
                                               ("closed",), ("bound", "one", "a"), ("closed",), ("shut",), ("torn",)])

    def test_only_a_library_that_is_not_there_is_away(self):
        for step, error in ((("open", 3), NoDoor), (("close", -1), NoDoor), (("call", "nope", 0), NoLib),
                            (("call", "main", 2), NoUse), (("call", "base", 0), NoUse)):
            with self.assertRaises(error):
                run(PROGRAM, (("open", 0), step))

    def test_each_run_is_a_new_process(self):
        steps = (("call", "main", 1), ("open", 0), ("call", "main", 0))
        self.assertEqual(run(PROGRAM, steps), run(PROGRAM, steps))
        process = Process(PROGRAM)
        self.assertEqual([process.do(step) for step in steps], run(PROGRAM, steps))

    def test_beyond_the_limits(self):
        steps = (("open", 0), ("call", "main", 0), ("close", 0), ("call", "one", 0)) * 200
        told = run(PROGRAM, steps)
        self.assertEqual(told[:4], [("opened",), ("bound", "one", "a"), ("closed",), ("away",)])
        self.assertEqual(told[4:], [("opened",), ("torn",), ("closed",), ("away",)] * 199)

    def test_arguments_stay_and_results_are_new(self):
        program, steps = listed(PROGRAM), listed((("open", 0), ("call", "main", 0)))
        kept = copy.deepcopy((program, steps))
        run(program, steps).clear()
        self.assertEqual((program, steps), kept)
        self.assertEqual(run(program, steps), [("opened",), ("bound", "one", "a")])


if __name__ == "__main__":
    unittest.main()
