import unittest

from latebound import data
from latebound.data import is_lib, is_program, is_step
from samples import BASE, DOORS, MAIN, ONE, PROGRAM, TWO, lib, listed, nested, part_at, places, replaced

# nowhere in a LIB, a PROGRAM or a STEP may one of these stand
JUNK = (
    None, 2, -1, 10 ** 30, "One", "o1", "a b", "a\n", "a@b", "-", "_", "\u00e4", "\u0430", "ninechars",
    [], ["one"], [["f", ""]], ("one", 1), (None,), ((),), (("f", ""), ("f", "")),
    nested("a", 11), nested("a", 12), nested(0, 12), (nested((), 11),),
)
# a VERSION or a mode may not be a number, a weak must be a truth itself
NUMBERS = (0, 1)
TRUTHS = (True, False)


class DataTest(unittest.TestCase):

    def answer(self, wanted, told, *shown):
        self.assertIs(told, wanted, shown)

    def are_libs(self, *things):
        for thing in things:
            self.answer(True, is_lib(thing), thing)

    def are_no_libs(self, *things):
        for thing in things:
            self.answer(False, is_lib(thing), thing)

    def are_programs(self, *things):
        for thing in things:
            self.answer(True, is_program(thing), thing)

    def are_no_programs(self, *things):
        for thing in things:
            self.answer(False, is_program(thing), thing)

    def are_steps(self, program, *things):
        for thing in things:
            self.answer(True, is_step(program, thing), thing)

    def are_no_steps(self, program, *things):
        for thing in things:
            self.answer(False, is_step(program, thing), thing)

    def no_part_is_wrong(self, value, test):
        """At each place each wrong value makes the test False."""
        for path in places(value):
            part = part_at(value, path)
            wrong = list(JUNK + NUMBERS) + ([] if isinstance(part, bool) else list(TRUTHS))
            if isinstance(part, tuple):
                wrong += [list(part), listed(part), part + (part,), (part,), ""]
            else:
                wrong += [(), (part,), [part]]
            for other in wrong:
                self.answer(False, test(replaced(value, path, other)), path, other)


class LibTest(DataTest):

    def test_example(self):
        self.are_libs(MAIN, ONE, TWO, BASE)
        self.are_no_libs(("one", ("one",), (), ()))

    def test_defined_in_this_file(self):
        for function in (is_lib, is_program, is_step):
            self.assertEqual(function.__module__, data.__name__)

    def test_by_name(self):
        self.answer(True, is_lib(thing=ONE))
        self.answer(False, is_lib(thing=7))

    def test_smallest(self):
        self.are_libs(lib("a"), lib("z"), lib("abcdefgh"), lib("stuvwxyz"), lib("main"))

    def test_no_tuple_of_four(self):
        self.are_no_libs(None, True, False, 0, 4, "", "main", (), [], ("a",), ("a", (), ()), ("a", (), (), (), ()))
        self.are_no_libs(["a", (), (), ()], ((), "a", (), ()), ("a", (), (), None), "abcd", PROGRAM, (ONE,))

    def test_names(self):
        good = ("a", "z", "azazazaz", "none")
        bad = ("", "abcdefghi", "A", "aB", "a1", "1", "a ", " a", "a_b", "a-b", "a@b", "a|b", "\u00df", "\u017f", "\n",
               0, 1, True, False, None, ("a",), ["a"], ())
        for name in good:
            self.are_libs(lib(name), lib("x", (name,)), lib("x", (), ((name, ""),)), lib("x", (), (("f", name),)),
                          lib("x", (), (), ((name, "", True),)), lib("x", (), (), (("f", name, False),)))
        for name in bad:
            self.are_no_libs(lib(name), lib("x", (name,)), lib("x", (), ((name, "v"),)),
                             lib("x", (), (), ((name, "v", True),)))
            if name != "":
                self.are_no_libs(lib("x", (), (("f", name),)), lib("x", (), (), (("f", name, False),)))

    def test_needs(self):
        self.are_libs(lib("x", ("b", "a")), lib("x", ("a", "b", "c", "xx")))
        self.are_no_libs(lib("x", ("x",)), lib("x", ("a", "x")), lib("x", ("a", "a")), lib("x", ("a", "b", "a")))
        self.are_no_libs(lib("x", "a"), lib("x", "ab"), lib("x", ["a"]), lib("x", ("a", 1)), lib("x", None))

    def test_defs(self):
        self.are_libs(lib("x", (), (("f", ""), ("f", "a"), ("f", "b"), ("g", ""), ("g", "a"))))
        self.are_libs(lib("x", (), (("f", "z"), ("g", "a"))), lib("x", (), (("f", ""), ("ff", ""))))
        self.are_no_libs(lib("x", (), (("g", ""), ("f", ""))), lib("x", (), (("f", "a"), ("f", ""))),
                         lib("x", (), (("f", "b"), ("f", "a"))), lib("x", (), (("f", ""), ("f", ""))),
                         lib("x", (), (("f", "a"), ("f", "b"), ("f", "b"))),
                         lib("x", (), (("f", "a"), ("g", "a"), ("f", "b"))))
        self.are_no_libs(lib("x", (), ("f", "")), lib("x", (), (("f",),)), lib("x", (), (("f", "", ""),)),
                         lib("x", (), (("f", "", False),)), lib("x", (), (["f", ""],)), lib("x", (), [("f", "")]),
                         lib("x", (), ("fg",)), lib("x", (), (("f", None),)), lib("x", (), "fg"))

    def test_uses(self):
        self.are_libs(lib("x", (), (), (("f", "", True), ("f", "a", False), ("f", "b", True), ("g", "", False))))
        self.are_no_libs(lib("x", (), (), (("f", "", False), ("f", "", True))),
                         lib("x", (), (), (("f", "", True), ("f", "", False))),
                         lib("x", (), (), (("f", "", True), ("f", "", True))),
                         lib("x", (), (), (("e", "", True), ("f", "v", False), ("f", "v", True))))
        self.are_no_libs(lib("x", (), (), (("g", "", False), ("f", "", False))),
                         lib("x", (), (), (("f", "b", False), ("f", "a", True))),
                         lib("x", (), (), (("f", "a", False), ("f", "", True))))
        self.are_no_libs(lib("x", (), (), (("f", ""),)), lib("x", (), (), (("f", "", False, False),)),
                         lib("x", (), (), ("f", "", False)), lib("x", (), (), [("f", "", False)]),
                         lib("x", (), (), (["f", "", False],)), lib("x", (), (), (("f", False, ""),)))

    def test_weak_is_a_truth(self):
        for weak in (0, 1, None, "", "True", (), (True,), [], [False]):
            self.are_no_libs(lib("x", (), (), (("f", "", weak),)))

    def test_wrong_part_at_each_place(self):
        for value in (MAIN, ONE, TWO, BASE):
            self.no_part_is_wrong(value, is_lib)

    def test_beyond_the_limits(self):
        letters = "abcdefghijklmnopqrstuvwxyz"
        defs, uses = tuple((one, "") for one in letters), tuple((one, "", True) for one in letters)
        self.are_libs(lib("main", tuple(letters), defs, uses))
        self.are_no_libs(lib("main", tuple(letters) + ("a",)))

    def test_twelve_levels(self):
        for levels in range(1, 13):
            for inner in ("a", 0, True, None, (), MAIN):
                deep = nested(inner, levels)
                self.are_no_libs(deep, (deep,) * 4, lib("x", (deep,)), lib("x", (), (deep,)), lib("x", (), (), (deep,)))
                self.are_no_programs(deep, (deep,) * 3, ((deep,), (), ()))
                self.are_no_programs(((MAIN,), (deep,), ()), ((MAIN,), (), (deep,)))
                self.are_no_steps(PROGRAM, deep, ("open", deep), (deep, 0), ("call", deep, 0), ("call", "main", deep))


class ProgramTest(DataTest):

    def test_example(self):
        self.assertEqual((is_program(PROGRAM), is_lib(ONE), is_lib(("one", ("one",), (), ())),
                          is_step(PROGRAM, ("call", "main", 2))), (True, True, False, False))

    def test_by_name(self):
        self.answer(True, is_program(thing=PROGRAM))
        self.answer(False, is_program(thing=()))

    def test_smallest(self):
        self.are_programs(((lib("main"),), (), ()), ((lib("x"),), (), ()), ((lib("x"), lib("main")), (), ()))

    def test_no_tuple_of_three(self):
        self.are_no_programs(None, True, False, 3, "abc", "", (), [], ((MAIN,),), ((MAIN,), ()), ((MAIN,), (), (), ()))
        self.are_no_programs([(MAIN,), (), ()], listed(PROGRAM), MAIN, (PROGRAM,), ((), (MAIN,), ()), ((), (), (MAIN,)))

    def test_libs(self):
        self.are_no_programs(((), (), ()), (MAIN, (), ()), ([MAIN], (), ()), ((list(MAIN),), (), ()), ("main", (), ()))
        for libs in ((MAIN, lib("x"), lib("x")), (MAIN, lib("main")), (MAIN, MAIN), (MAIN, lib("x"), MAIN),
                     (MAIN, lib("x", ("x",))), (MAIN, lib("X")), (MAIN, lib("x")[:3])):
            self.are_no_programs((libs, (), ()))

    def test_needs(self):
        for libs in ((lib("main", ("b", "a")), lib("a", ("b",)), lib("b", ("a",))), (lib("x", ("main",)), lib("main"))):
            self.are_programs((libs, (), ()))
        for libs in ((lib("main"), lib("a", ("main",))), (lib("main"), lib("a", ("b", "main")), lib("b")),
                     (lib("main", ("c",)), lib("a")), (lib("main"), lib("a", ("c",))), (lib("x"), lib("main", ("x",))),
                     (lib("main"), lib("a"), lib("b", ("a", "c"))), (lib("main", ("main",)),)):
            self.are_no_programs((libs, (), ()))

    def test_preload(self):
        libs = PROGRAM[0]
        for preload in (("two",), ("two", "base", "one"), ("base", "one")):
            self.are_programs((libs, preload, ()), (libs, preload, DOORS))
        for preload in (("main",), ("one", "main"), ("one", "one"), ("one", "two", "one"), ("nope",), ("one", "nope"),
                        ["one"], "one", (("one",),), (1,), (True,), (["one"],), ("",), None, ("-",)):
            self.are_no_programs((libs, preload, ()), (libs, preload, DOORS))

    def test_doors(self):
        libs = PROGRAM[0]
        every = tuple((name, mode) for name in ("two", "one", "base") for mode in ("local", "deep", "global"))
        self.are_programs((libs, (), every), (libs, ("one",), (("one", "deep"),)), (libs, (), every[::-1]))
        for doors in ((("main", "global"),), (("one", "deep"), ("main", "local")), (("nope", "global"),),
                      (("one", "deep"), ("nope", "deep")), (("one", "deep"), ("one", "deep")), every + every[4:5],
                      ("one", "deep"), (("one",),), (("one", "deep", 0),), (("deep", "one"),), (["one", "deep"],),
                      [("one", "deep")], None, "one", ("ab",)):
            self.are_no_programs((libs, (), doors))
        for mode in ("Global", "globals", "", "lazy", "glob", "now", None, 0, True, ("global",), ["deep"]):
            self.are_no_programs((libs, (), (("one", mode),)))
        for name in ("", "One", None, 1, True, ("one",), ["one"]):
            self.are_no_programs((libs, (), ((name, "global"),)))

    def test_wrong_part_at_each_place(self):
        self.no_part_is_wrong((PROGRAM[0], ("two", "base"), DOORS), is_program)

    def test_beyond_the_limits(self):
        names = [a + b for a in "abcdef" for b in "uvwxyz"]
        libs = (MAIN,) + tuple(lib(name, tuple(other for other in names if other != name)) for name in names)
        doors = tuple((name, mode) for name in names for mode in ("global", "local", "deep"))
        big = (libs, tuple(names), doors)
        self.are_programs(big)
        self.are_no_programs((libs + (libs[5],), big[1], doors), (libs, big[1] + ("au",), doors),
                             (libs, big[1], doors + doors[:1]))
        self.are_steps(big, ("open", len(doors) - 1), ("close", len(doors) - 1))
        self.are_no_steps(big, ("open", len(doors)))


class StepTest(DataTest):

    def test_doors(self):
        for word in ("open", "close"):
            self.are_steps(PROGRAM, (word, 0), (word, 1), (word, 2))
            for number in (-1, -3, 3, 4, 10 ** 30, True, False, "0", None, (0,), [0], "one"):
                self.are_no_steps(PROGRAM, (word, number))
            self.are_no_steps(PROGRAM, (word,), (word, 0, 0), [word, 0], (word, "main", 0), (0, word))

    def test_calls(self):
        self.are_steps(PROGRAM, ("call", "main", 0), ("call", "main", 1), ("call", "one", 0), ("call", "two", 0))
        for name, number in (("main", 2), ("main", 3), ("one", 1), ("two", 1), ("base", 0),
                             ("main", -1), ("main", -2), ("one", -1), ("base", -1)):
            self.are_no_steps(PROGRAM, ("call", name, number))
        for number in (True, False, "0", None, (0,), [0]):
            self.are_no_steps(PROGRAM, ("call", "main", number))
        for name in ("nope", "", "log", 0, True, None, ("main",), ["main"], MAIN):
            self.are_no_steps(PROGRAM, ("call", name, 0))
        self.are_no_steps(PROGRAM, ("call",), ("call", "main"), ("call", 0), ("call", 0, "main"),
                          ("call", "main", 0, 0), ["call", "main", 0])

    def test_other_words(self):
        for word in ("", "Open", "opens", "shut", "calls", "opened", None, 0, True, ("open",), ["close"], ("call",)):
            self.are_no_steps(PROGRAM, (word, 0), (word, "main", 0), (word,), word)
        self.are_no_steps(PROGRAM, ("open", "main", 0), ("close", "main", 0))
        self.are_no_steps(PROGRAM, (), [], None, True, 0, "open 0", "ab", "abc")

    def test_without_doors_and_uses(self):
        bare = ((lib("main"),), (), ())
        self.are_no_steps(bare, ("open", 0), ("close", 0), ("call", "main", 0), ("open", -1), ("call", "main", -1))

    def test_program_as_lists(self):
        lists = listed(PROGRAM)
        self.are_steps(lists, ("open", 2), ("close", 0), ("call", "main", 1), ("call", "two", 0))
        self.are_no_steps(lists, ("open", 3), ("call", "main", 2), ("call", "base", 0))
        self.are_no_steps(lists, ["open", 0], ["call", "main", 0])
        self.are_no_steps((lists[0], (), DOORS), ("open", 3), ("call", "nope", 0))
        self.assertEqual(lists, listed(PROGRAM))

    def test_wrong_part_at_each_place(self):
        for step in (("open", 0), ("close", 2), ("call", "main", 0)):
            for path in places(step):
                for other in JUNK + TRUTHS + ((), [], "", "nope"):
                    # the one wrong value that is right here: another door
                    if other == 2 and path == (1,) and step[0] != "call":
                        continue
                    self.answer(False, is_step(PROGRAM, replaced(step, path, other)), path, other)

    def test_by_name(self):
        self.answer(True, is_step(thing=("open", 0), program=PROGRAM))
        self.answer(False, is_step(PROGRAM, thing=("open", 9)))


if __name__ == "__main__":
    unittest.main()
