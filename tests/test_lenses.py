"""What a lens sees: fewer bases, but the same answers to the call, now and behind all opens and closes."""

import unittest

import model
from latebound.errors import NoLib, NoUse
from latebound.layout import Layout, closed_base, opened_base
from latebound.lenses import Lens, all_lenses
from latebound.searches import fewest, runs_from, way_apart, way_to
from latebound.walks import bases
from limits import MIXED, MIXED_USES, NEEDS_AND_DOORS, big, uneven
from samples import PROGRAM, Raising


class LensTest(Raising):

    def compare(self, program, lens, found):
        """Each STEP from each base leads to what the lens sees of it, and the answers are those of the base."""
        layout = Layout(program)
        moves = {}
        for base in found:
            state = base + ((),)
            seen = lens.seen(base)
            _, name, i = lens.step
            self.assertEqual(lens.answer(seen), model.called(program, state, name, i)[0])
            if seen not in moves:
                moves[seen] = dict(lens.moves(seen))
            for k, count in enumerate(base[0]):
                step = ("close", k) if count else ("open", k)
                other = lens.seen((closed_base if count else opened_base)(layout, base, k))
                if k in lens.doors:
                    self.assertEqual(moves[seen][step], other)
                else:
                    self.assertEqual((step in moves[seen], other), (False, seen))
        return len(moves)

    def test_each_step_from_each_base(self):
        fewer = 0
        for seed in range(60):
            program = model.lively_program(700 + seed, 3 + seed % 6, 2 + seed % 3, "fgh" if seed % 3 else "f")
            found = [base for base, _ in bases(program)][:400]
            for lens in all_lenses(program):
                fewer += self.compare(program, lens, found) < len(found)
        self.assertGreater(fewer, 100)

    def test_each_step_from_each_base_at_the_limits(self):
        for program in (big(*NEEDS_AND_DOORS[1], MIXED, MIXED_USES), uneven(1, *NEEDS_AND_DOORS[1])):
            found = [base for base, _ in bases(program)][::23]
            for lens in all_lenses(program)[:20:3]:
                self.assertLess(self.compare(program, lens, found), len(found))

    def test_all_that_is_seen_is_reached_from_the_start(self):
        for seed in range(20):
            program = model.lively_program(800 + seed, 5, 3)
            for lens in all_lenses(program):
                seen = {lens.seen(base): way for base, way in reversed(bases(program))}
                self.assertEqual(runs_from(lens.start, lens.moves), seen)

    def test_counts_above_one(self):
        lens = Lens(PROGRAM, "main", 0)
        base = lens.seen(((2, 0, 1), (2, 0), ("main", "one", "base"), ("base", "one")))
        self.assertEqual([step for step, _ in lens.moves(base)], [("close", 0), ("close", 2), ("open", 1)])
        self.assertEqual(dict(lens.moves(base))[("close", 0)][0], (1, 0, 1))

    def test_the_wrong_call(self):
        self.raises(NoLib, "nope", Lens, PROGRAM, "nope", -1)
        for i in (-1, 2, 10 ** 30):
            self.raises(NoUse, i, Lens, PROGRAM, "main", i)


class SearchesTest(unittest.TestCase):

    def moves(self, number):
        """Steps "a" and "b" from each number below 20."""
        return [("a", number + 1), ("b", 2 * number)] if number < 20 else []

    def test_runs_from(self):
        runs = runs_from(1, self.moves)
        self.assertEqual((runs[1], runs[2], runs[4], runs[7]), ((), ("a",), ("a", "b"), ("a", "a", "b", "a")))
        self.assertEqual([len(run) for run in runs.values()], sorted(len(run) for run in runs.values()))

    def test_way_to(self):
        self.assertEqual(way_to(1, self.moves, lambda number: number > 20), ("a", "a", "b", "b", "b"))
        self.assertIsNone(way_to(1, self.moves, lambda number: number > 60))

    def test_way_apart(self):
        def moves(pair):
            return [(step, (one, other)) for (step, one), (_, other) in zip(*map(self.moves, pair))]

        def apart(pair):
            return pair[0] // 10 != pair[1] // 10

        self.assertEqual(way_apart((9, 10), moves, apart), ())
        self.assertEqual(way_apart((3, 4), moves, apart), ("a", "b"))
        self.assertEqual(way_apart((3, 4), moves, apart, 2), ("a", "b"))
        self.assertIsNone(way_apart((3, 4), moves, apart, 1))
        self.assertIsNone(way_apart((3, 3), moves, apart))

    def test_fewest(self):
        self.assertEqual(fewest(4, lambda chosen: sum(chosen) == 5), (2, 3))
        self.assertEqual(fewest(5, lambda chosen: sum(chosen) == 5), (1, 4))
        self.assertEqual(fewest(3, lambda chosen: True), ())
        self.assertIsNone(fewest(3, lambda chosen: sum(chosen) > 3))


if __name__ == "__main__":
    unittest.main()
