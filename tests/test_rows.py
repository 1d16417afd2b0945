import copy
import itertools
import unittest

from latebound import rows
from latebound.errors import NoLib
from latebound.rows import first_row, gives, row
from samples import DOORS, PROGRAM, lib, listed

# ring: a needs b, b needs c, c needs a; d needs two libraries that need more
RINGS = ((lib("main", ("e",)), lib("a", ("b",)), lib("b", ("c",)), lib("c", ("a",)),
          lib("d", ("f", "a")), lib("e"), lib("f", ("e",))), (), ())


class RowTest(unittest.TestCase):

    def test_example(self):
        self.assertEqual((row(PROGRAM, ("two", "one")), first_row(PROGRAM)), (["two", "one", "base"], ["main"]))

    def test_defined_in_this_file(self):
        for function in (row, first_row, gives):
            self.assertEqual(function.__module__, rows.__name__)

    def test_breadth_first(self):
        self.assertEqual(row(RINGS, ("d",)), ["d", "f", "a", "e", "b", "c"])
        self.assertEqual(row(RINGS, ("d", "b")), ["d", "b", "f", "a", "c", "e"])
        self.assertEqual(row(RINGS, ("main", "f")), ["main", "f", "e"])

    def test_order_of_needs(self):
        libs = (lib("main"), lib("p", ("r", "q")), lib("q"), lib("r", ("q", "s")), lib("s"))
        self.assertEqual(row((libs, (), ()), ("p",)), ["p", "r", "q", "s"])

    def test_rings_of_needs(self):
        self.assertEqual(row(RINGS, ("a",)), ["a", "b", "c"])
        self.assertEqual(row(RINGS, ("c",)), ["c", "a", "b"])
        self.assertEqual(row(RINGS, ("c", "b")), ["c", "b", "a"])

    def test_name_given_twice(self):
        self.assertEqual(row(PROGRAM, ("two", "one", "two")), ["two", "one", "base"])
        self.assertEqual(row(PROGRAM, ("base", "base")), ["base"])
        self.assertEqual(row(PROGRAM, ["one", "base", "one", "two", "base"]), ["one", "base", "two"])

    def test_no_name(self):
        self.assertEqual((row(PROGRAM, ()), row(PROGRAM, [])), ([], []))

    def test_names_stay_ahead_of_needs(self):
        self.assertEqual(row(PROGRAM, ("one", "two", "main", "base")), ["one", "two", "main", "base"])
        self.assertEqual(row(PROGRAM, ("base", "one")), ["base", "one"])

    def test_from_lists_and_tuples(self):
        for program in (PROGRAM, listed(PROGRAM), (listed(PROGRAM[0]), (), DOORS), [PROGRAM[0], [], DOORS]):
            for names in (("two", "one"), ["two", "one"]):
                self.assertEqual(row(program, names), ["two", "one", "base"])

    def test_no_lib(self):
        for names, wrong in ((("nope",), "nope"), (("one", "nope", "nix"), "nope"), (["nix", "one", "nope"], "nix"),
                             (("log",), "log"), (("two", "one", "on"), "on")):
            with self.assertRaises(NoLib) as caught:
                row(PROGRAM, names)
            self.assertEqual(caught.exception.name, wrong)

    def test_by_name(self):
        self.assertEqual(row(names=("one",), program=PROGRAM), ["one", "base"])
        self.assertEqual(row(PROGRAM, names=("one",)), ["one", "base"])

    def test_each_is_in_the_row_once_and_has_its_reason(self):
        names = [one[0] for one in RINGS[0]]
        needs = {one[0]: one[1] for one in RINGS[0]}
        for many in range(4):
            for given in itertools.product(names, repeat=many):
                told = row(RINGS, given)
                wanted = list(dict.fromkeys(given))
                for name in wanted:
                    wanted += [need for need in needs[name] if need not in wanted]
                self.assertEqual(told, wanted, given)

    def test_arguments_stay_and_results_are_new(self):
        program, names = listed(PROGRAM), ["one", "one"]
        kept = copy.deepcopy((program, names))
        told = row(program, names)
        self.assertEqual((program, names), kept)
        self.assertIsNot(told, names)
        told.append("two")
        told[0] = "nope"
        self.assertEqual((row(program, names), program, names), (["one", "base"],) + kept)

    def test_needs_of_a_lib_are_not_handed_out(self):
        program = [[["main", ["a"], [], []], ["a", [], [], []]], ["a"], []]
        row(program, program[1]).append("x")
        first_row(program).clear()
        self.assertEqual(program, [[["main", ["a"], [], []], ["a", [], [], []]], ["a"], []])


class FirstRowTest(unittest.TestCase):

    def test_without_preload(self):
        self.assertEqual(first_row(PROGRAM), ["main"])
        self.assertEqual(first_row(RINGS), ["main", "e"])
        self.assertEqual(first_row(((lib("x"), lib("main")), (), ())), ["x"])

    def test_with_preload(self):
        self.assertEqual(first_row((PROGRAM[0], ("two",), DOORS)), ["main", "two", "base"])
        self.assertEqual(first_row((PROGRAM[0], ("base", "two", "one"), ())), ["main", "base", "two", "one"])
        self.assertEqual(first_row((PROGRAM[0], ("two", "one"), ())), ["main", "two", "one", "base"])

    def test_preload_stands_ahead_of_the_needs_of_main(self):
        self.assertEqual(first_row((RINGS[0], ("c", "d"), ())), ["main", "c", "d", "e", "a", "f", "b"])
        self.assertEqual(first_row((RINGS[0], ("e",), ())), ["main", "e"])

    def test_lists_and_name(self):
        self.assertEqual(first_row(listed((PROGRAM[0], ("two",), ()))), ["main", "two", "base"])
        self.assertEqual(first_row(program=[list(PROGRAM[0]), ("two",), []]), ["main", "two", "base"])

    def test_arguments_stay_and_results_are_new(self):
        program = listed((PROGRAM[0], ("two",), DOORS))
        kept = copy.deepcopy(program)
        first_row(program).append("one")
        self.assertEqual((first_row(program), program), (["main", "two", "base"], kept))


class GivesTest(unittest.TestCase):

    def program(self, *defs):
        return ((lib("main"), lib("x", (), defs)), (), ())

    def test_example(self):
        told = (gives(PROGRAM, "one", ("log", "", False)), gives(PROGRAM, "two", ("log", "a", False)),
                gives(PROGRAM, "base", ("log", "a", False)))
        self.assertEqual(told, ("a", None, ""))

    def test_own_version_of_the_use(self):
        program = self.program(("f", ""), ("f", "a"), ("f", "b"), ("g", "c"))
        for version in ("", "a", "b"):
            self.assertEqual(gives(program, "x", ("f", version, False)), version)

    def test_otherwise_the_least_that_serves(self):
        self.assertEqual(gives(self.program(("f", "a"), ("f", "b")), "x", ("f", "", False)), "a")
        self.assertEqual(gives(self.program(("e", ""), ("f", "q"), ("f", "z"), ("g", "")), "x", ("f", "", True)), "q")
        self.assertEqual(gives(self.program(("f", ""), ("f", "b")), "x", ("f", "a", False)), "")
        self.assertEqual(gives(self.program(("f", ""), ("f", "a")), "x", ("f", "b", True)), "")

    def test_none_serves(self):
        self.assertIsNone(gives(self.program(("f", "a"), ("f", "b")), "x", ("f", "c", False)))
        self.assertIsNone(gives(self.program(("f", "ab")), "x", ("f", "a", True)))
        self.assertIsNone(gives(self.program(("f", ""), ("fg", "")), "x", ("g", "", False)))
        self.assertIsNone(gives(self.program(("f", "g")), "x", ("g", "", False)))
        self.assertIsNone(gives(self.program(), "x", ("f", "", True)))
        self.assertIsNone(gives(self.program(("f", "")), "main", ("f", "", True)))

    def test_weak_does_not_matter(self):
        for version in ("", "a", "b"):
            for name in ("main", "one", "two", "base"):
                weak, strong = ("log", version, True), ("log", version, False)
                self.assertEqual(gives(PROGRAM, name, weak), gives(PROGRAM, name, strong))

    def test_every_set_of_versions(self):
        for many in range(4):
            for versions in itertools.combinations(("", "a", "b"), many):
                program = self.program(*[("f", version) for version in versions])
                for wanted in ("", "a", "b", "c"):
                    serving = [one for one in versions if wanted == "" or one in ("", wanted)]
                    least = wanted if wanted in versions else serving[0] if serving else None
                    self.assertEqual(gives(program, "x", ("f", wanted, False)), least)

    def test_no_lib(self):
        for name in ("nope", "log", "mai", "a"):
            with self.assertRaises(NoLib) as caught:
                gives(PROGRAM, name, ("log", "", False))
            self.assertEqual(caught.exception.name, name)

    def test_lists_and_names(self):
        lists = listed(PROGRAM)
        self.assertEqual(gives(use=["log", "", False], name="two", program=lists), "b")
        self.assertEqual(gives(PROGRAM, "two", use=["plug", "a", True]), "")
        self.assertEqual(gives((lists[0], (), ()), "one", ("log", "a", False)), "a")

    def test_arguments_stay(self):
        program, use = listed(PROGRAM), ["log", "b", False]
        gives(program, "two", use)
        self.assertEqual((program, use), (listed(PROGRAM), ["log", "b", False]))


if __name__ == "__main__":
    unittest.main()
