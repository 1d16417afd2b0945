"""Torn calls, closing, stands that are alike and preloads, of programs at the limits of the document."""

import random
import unittest

import model
from latebound.alike import alike, classes, commute, orders, shows_unlike
from latebound.closing import calm_order, quiet_order, tears, torn_by
from latebound.errors import Ring
from latebound.preload import (breach, clash, gives_all, is_lean, least_preload, many_preloads, shows_preload,
                               with_preload)
from latebound.runs import process_behind, run
from latebound.torn import fewest_pins, shows_pins, steady_order, tearing_run, torn
from latebound.walks import bases
from limits import TimedMore

DOORS = (0, 1, 2, 3)


class LimitsTest(TimedMore):

    def calls(self, program):
        return [step[1:] for step in model.call_steps(program)]

    def test_torn(self):
        for program in self.programs():
            told = self.timed(torn, program)
            for name, i in self.calls(program)[::3]:
                way = self.timed(tearing_run, program, name, i)
                self.assertEqual(way is not None, (name, i) in [triple[:2] for triple in told])
                if way is not None:
                    self.assertEqual(run(program, way)[-1], ("torn",))
                self.assertIsNone(self.timed(tearing_run, program, name, i, DOORS))

    def test_pins(self):
        for program in self.programs():
            calls = self.calls(program)
            for some in (calls, calls[::4], calls[:2]):
                pins = self.timed(fewest_pins, program, some)
                self.assertTrue(self.timed(shows_pins, program, some, pins))
                for name, i in some[::5]:
                    self.assertIsNone(tearing_run(program, name, i, pins))
                self.assertTrue(pins == [] or not shows_pins(program, some, pins[1:]))

    def test_steady_order(self):
        for program in self.programs():
            try:
                self.assertEqual(sorted(self.timed(steady_order, program)), list(DOORS))
            except Ring as ring:
                self.assertGreater(len(ring.doors), 1)

    def test_closing(self):
        for at, program in enumerate(self.programs()):
            process = process_behind(program, model.busy_steps(program, at)[:60])
            calm = self.timed(calm_order, process)
            quiet = self.timed(quiet_order, process)
            self.assertEqual(sorted(calm), sorted(process.opened()))
            self.assertEqual(self.timed(torn_by, process, quiet), [])
            self.assertLessEqual(len(torn_by(process, calm)), len(torn_by(process, process.opened())))
            for k in DOORS:
                self.timed(tears, process, k)

    def test_alike(self):
        for at, program in enumerate(self.programs()):
            dice = random.Random(at)
            for many in (0, 60, 60, 60):
                one = model.random_steps(program, dice.random(), many)
                others = [one[::-1], tuple(sorted(one)), model.random_steps(program, dice.random(), many),
                          tuple(step for step in one if step[0] != "call")]
                for other in others:
                    way = self.timed(alike, program, one, other)
                    if way is not None:
                        self.assertTrue(self.timed(shows_unlike, program, one, other, way))

    def test_classes(self):
        for program in self.programs():
            told = self.timed(classes, program)
            self.assertEqual(sum(len(group) for group in told), len(bases(program)))
            groups = [group for group in told if len(group) > 1][:3] + told[-2:]
            for group in groups:
                self.assertIsNone(alike(program, group[0], group[-1]))
                self.assertIsNotNone(alike(program, group[0], told[1][0]))

    def test_orders_and_commute(self):
        for program in self.programs():
            told = self.timed(orders, program, DOORS)
            ends = [[tuple(("open", k) for k in order) for order in group] for group in told]
            self.assertEqual(sum(len(group) for group in ends), 24)
            for group in ends:
                self.assertIsNone(alike(program, group[0], group[-1]))
            for one, other in zip(ends, ends[1:]):
                self.assertIsNotNone(alike(program, one[0], other[-1]))
            for first, second in ((0, 1), (2, 1), (3, 0)):
                unlike = self.timed(commute, program, first, second)
                if unlike is not None:
                    both = (("open", first), ("open", second))
                    self.assertTrue(shows_unlike(program, unlike[0] + both, unlike[0] + both[::-1], unlike[1]))

    def test_preloads(self):
        for at, program in enumerate(self.programs()):
            dice = random.Random(at)
            names = [lib[0] for lib in program[0]]
            for _ in range(4):
                calls = dice.sample(self.calls(program), 4)
                wanted = tuple(call + (dice.choice((("bound", dice.choice(names), ""), ("nobody",), ("lost",))),)
                               for call in calls)
                self.compare(program, wanted[:dice.randint(1, 4)])

    def compare(self, program, wanted):
        least = self.timed(least_preload, program, wanted)
        clashing = self.timed(clash, program, wanted)
        counts = [self.timed(many_preloads, program, wanted, many) for many in range(9)]
        self.assertEqual((clashing is None, any(counts)), (least is not None, least is not None))
        told = self.timed(breach, program, wanted)
        self.assertEqual(self.timed(gives_all, program, wanted), told is None)
        if told is not None:
            self.assertNotEqual(run(program, told[1])[-1], wanted[told[0]][2])
        if least is None:
            self.assertIsNone(least_preload(program, tuple(wanted[at] for at in clashing)))
        else:
            self.assertEqual((counts[:len(least)], counts[8]), ([0] * len(least), 0))
            self.assertTrue(self.timed(is_lean, program, wanted, least))
            self.assertTrue(self.timed(shows_preload, program, wanted, least))
            self.assertTrue(gives_all(with_preload(program, least), wanted))


if __name__ == "__main__":
    unittest.main()
