import copy
import unittest

from latebound import process
from latebound.errors import NoDoor, NoLib, NotThere, NoUse
from latebound.process import Process
from samples import BASE, DOORS, MAIN, ONE, PROGRAM, TWO, Raising, lib, listed

OPENED, CLOSED, FULL, SHUT = ("opened",), ("closed",), ("full",), ("shut",)
TORN, LOST, NOBODY = ("torn",), ("lost",), ("nobody",)
METHODS = ("__init__", "open_door", "close_door", "call", "do", "counts", "opened", "there", "deep", "public", "looks",
           "slot", "base", "stand", "twin", "__eq__", "__len__", "__repr__")

F, WEAK_F = ("f", "", False), ("f", "", True)


def simple(libs, doors, preload=()):
    return (tuple(libs), tuple(preload), tuple(doors))


def done(process, *steps):
    return [process.do(step) for step in steps]


def seen(process):
    """All that the queries tell."""
    looks = {name: process.looks(name) for name in process.there()}
    return (process.counts(), process.opened(), process.there(), process.public(), process.deep(), looks,
            process.base(), process.stand(), len(process), repr(process))


class ProcessTest(Raising):

    def test_example(self):
        p = Process(PROGRAM)
        told = (p.open_door(1), p.call("main", 0), p.open_door(0), p.call("main", 0), p.call("two", 0), p.public(),
                p.looks("two"))
        self.assertEqual(told, (OPENED, LOST, OPENED, ("bound", "one", "a"), ("bound", "one", "a"),
                                ["main", "one", "base"], ["main", "one", "base", "two"]))
        told = (p.close_door(0), p.call("main", 0), p.public(), p.slot("two", 0), p.there(), repr(p))
        self.assertEqual(told, (CLOSED, TORN, ["main", "base"], TORN, ["base", "main", "two"],
                                "Process(1 doors open, 3 libraries)"))
        self.raises(NotThere, "one", p.call, "one", 0)

    def test_methods_stand_in_the_class_itself(self):
        self.assertEqual(Process.__module__, process.__name__)
        self.assertEqual(Process.__bases__, (object,))
        self.assertLessEqual(set(METHODS), set(vars(Process)))

    def test_at_first(self):
        p = Process((PROGRAM[0], ("two",), DOORS))
        self.assertEqual(p.base(), ((0, 0, 0), (), ("main", "two", "base"), ()))
        self.assertEqual(p.stand(), (p.base(), ()))
        self.assertEqual((p.counts(), p.opened(), p.there(), p.public(), p.deep(), p.slot("main", 1), len(p), repr(p)),
                         ([0, 0, 0], [], ["base", "main", "two"], ["main", "two", "base"], [], None, 3,
                          "Process(0 doors open, 3 libraries)"))

    def test_without_doors(self):
        p = Process(simple([lib("x", (), (("f", ""),), (F,))], []))
        self.assertEqual((p.base(), len(p), p.call("x", 0)), (((), (), ("x",), ()), 1, ("bound", "x", "")))
        self.raises(NoDoor, 0, p.open_door, 0)

    def test_by_name(self):
        p = Process(program=PROGRAM)
        told = (p.open_door(k=0), p.call(name="main", i=0), p.do(step=("open", 1)), p.looks(name="one"),
                p.slot(name="main", i=0), p.close_door(k=0))
        bound = ("bound", "one", "a")
        self.assertEqual(told, (OPENED, bound, OPENED, ["main", "one", "base"], bound, CLOSED))

    def test_kinds_of_results(self):
        p = Process(listed(PROGRAM))
        done(p, ("open", 2), ("open", 0), ("call", "one", 0))
        for told in (p.counts(), p.opened(), p.there(), p.public(), p.deep(), p.looks("one")):
            self.assertIs(type(told), list)
        base, slots = p.stand()
        answers = (slots[0][2], p.call("one", 0), p.open_door(1))
        for part in (p.base(), *p.base(), p.stand(), base, slots, *slots, *answers):
            self.assertIs(type(part), tuple)
        self.assertEqual((p.base(), slots), (((1, 1, 1), (2, 0, 1), ("main", "one", "base"), ("base", "one")),
                                             (("one", 0, ("bound", "one", "a")),)))


class DoorTest(Raising):

    def test_full_and_shut(self):
        p = Process(PROGRAM)
        self.assertEqual([p.close_door(0), p.open_door(0), p.open_door(0), p.open_door(0), p.open_door(0)],
                         [SHUT, OPENED, OPENED, FULL, FULL])
        self.assertEqual((p.counts(), p.opened(), repr(p)), ([2, 0, 0], [0], "Process(1 doors open, 3 libraries)"))
        self.assertEqual([p.close_door(0), p.close_door(0), p.close_door(0), p.close_door(1)],
                         [CLOSED, CLOSED, SHUT, SHUT])
        self.assertEqual((p.counts(), p.opened()), ([0, 0, 0], []))

    def test_refused_steps_change_nothing(self):
        p = Process(PROGRAM)
        done(p, ("open", 2), ("open", 2), ("open", 1), ("call", "main", 1), ("call", "two", 0))
        before = seen(p)
        self.assertEqual((p.open_door(2), p.close_door(0), seen(p)), (FULL, SHUT, before))

    def test_second_open_changes_its_count_alone(self):
        p = Process(PROGRAM)
        done(p, ("open", 1), ("open", 0), ("call", "two", 0))
        _, order, public, deep = p.base()
        slots = p.stand()[1]
        p.open_door(1)
        self.assertEqual(p.stand(), (((1, 2, 0), order, public, deep), slots))
        p.close_door(1)
        self.assertEqual(p.stand(), (((1, 1, 0), order, public, deep), slots))

    def test_open_order(self):
        p = Process(PROGRAM)
        done(p, ("open", 2), ("open", 0), ("open", 1), ("open", 2))
        self.assertEqual(p.opened(), [2, 0, 1])
        done(p, ("close", 2))
        self.assertEqual(p.opened(), [2, 0, 1])
        done(p, ("close", 2))
        self.assertEqual(p.opened(), [0, 1])
        done(p, ("open", 2))
        self.assertEqual(p.opened(), [0, 1, 2])
        done(p, ("close", 0), ("open", 0))
        self.assertEqual(p.opened(), [1, 2, 0])

    def test_public_in_the_order_of_the_row(self):
        libs = [lib("main"), lib("a", ("d", "c")), lib("b", ("c", "e")), lib("c"), lib("d", ("e",)), lib("e")]
        p = Process(simple(libs, [("a", "global"), ("b", "global"), ("b", "local"), ("a", "deep")]))
        done(p, ("open", 1))
        self.assertEqual(p.public(), ["main", "b", "c", "e"])
        done(p, ("open", 0))
        self.assertEqual(p.public(), ["main", "b", "c", "e", "a", "d"])
        q = Process(simple(libs, [("a", "global"), ("b", "global")]))
        done(q, ("open", 0), ("open", 1))
        self.assertEqual(q.public(), ["main", "a", "d", "c", "e", "b"])

    def test_local_and_deep_make_nothing_public(self):
        p = Process(PROGRAM)
        done(p, ("open", 1), ("open", 2))
        self.assertEqual((p.public(), p.there()), (["main"], ["base", "main", "one", "two"]))

    def test_libraries_that_were_there_become_public(self):
        p = Process(PROGRAM)
        done(p, ("open", 1))
        self.assertEqual(p.public(), ["main"])
        # base is there by door 1, and becomes public by door 0
        done(p, ("open", 0))
        self.assertEqual(p.public(), ["main", "one", "base"])

    def test_public_stays_when_its_door_goes(self):
        p = Process(PROGRAM)
        done(p, ("open", 1), ("open", 0), ("close", 0))
        self.assertEqual((p.public(), p.opened()), (["main", "base"], [1]))
        # one comes behind base now
        done(p, ("open", 0))
        self.assertEqual(p.public(), ["main", "base", "one"])
        done(p, ("close", 1), ("close", 0))
        self.assertEqual(p.public(), ["main"])

    def test_first_row_stays_public(self):
        p = Process((PROGRAM[0], ("base",), DOORS))
        done(p, ("open", 0), ("close", 0))
        self.assertEqual((p.public(), p.there()), (["main", "base"], ["base", "main"]))

    def test_deep_are_those_that_were_not_there(self):
        p = Process(PROGRAM)
        done(p, ("open", 2))
        self.assertEqual(p.deep(), ["base", "one"])
        p = Process(PROGRAM)
        done(p, ("open", 1), ("open", 2))
        self.assertEqual(p.deep(), ["one"])
        p = Process(PROGRAM)
        done(p, ("open", 0), ("open", 2))
        self.assertEqual(p.deep(), [])
        p = Process((PROGRAM[0], ("base",), DOORS))
        done(p, ("open", 2))
        self.assertEqual(p.deep(), ["one"])

    def test_deep_stays_when_its_door_goes(self):
        p = Process(PROGRAM)
        done(p, ("open", 2), ("open", 0), ("close", 2))
        self.assertEqual((p.deep(), p.public(), p.there()), (["base", "one"], ["main", "one", "base"],
                                                            ["base", "main", "one"]))
        done(p, ("close", 0), ("open", 0))
        self.assertEqual(p.deep(), [])

    def test_deep_goes_with_its_library(self):
        p = Process(PROGRAM)
        done(p, ("open", 2), ("open", 1), ("close", 2))
        self.assertEqual((p.deep(), p.there()), (["base"], ["base", "main", "two"]))
        done(p, ("open", 0))
        self.assertEqual(p.deep(), ["base"])

    def test_a_deep_one_stays_deep_when_it_becomes_public(self):
        p = Process(PROGRAM)
        done(p, ("open", 2), ("open", 0))
        self.assertEqual((p.deep(), p.public()), (["base", "one"], ["main", "one", "base"]))

    def test_who_goes_at_a_closing(self):
        p = Process(PROGRAM)
        done(p, ("open", 0), ("open", 1), ("open", 2), ("close", 0))
        self.assertEqual(p.there(), ["base", "main", "one", "two"])
        done(p, ("close", 2))
        self.assertEqual(p.there(), ["base", "main", "two"])
        done(p, ("open", 1), ("close", 1))
        self.assertEqual(p.there(), ["base", "main", "two"])
        done(p, ("close", 1))
        self.assertEqual(p.there(), ["main"])

    def test_a_library_does_not_stay_for_its_callers(self):
        p = Process(simple([lib("main", (), (), (F,)), lib("a", (), (("f", ""),))], [("a", "global")]))
        self.assertEqual(done(p, ("open", 0), ("call", "main", 0), ("close", 0), ("call", "main", 0)),
                         [OPENED, ("bound", "a", ""), CLOSED, TORN])
        self.assertEqual(p.there(), ["main"])

    def test_no_door(self):
        p = Process(PROGRAM)
        done(p, ("open", 0), ("call", "main", 0), ("open", 1))
        before = seen(p)
        for k in (-1, -2, -3, 3, 4, 10 ** 30, -10 ** 30):
            self.raises(NoDoor, k, p.open_door, k)
            self.raises(NoDoor, k, p.close_door, k)
            self.raises(NoDoor, k, p.do, ("open", k))
            self.raises(NoDoor, k, p.do, ("close", k))
            self.raises(NoDoor, k, p.do, ["close", k])
        self.assertEqual(seen(p), before)


class SlotTest(Raising):

    def setUp(self):
        libs = [lib("main", (), (), (F, ("g", "", True))), lib("a", (), (("f", ""),), (("g", "", False),)),
                lib("b", (), (("g", ""),), (F, ("g", "", False)))]
        self.program = simple(libs, [("a", "global"), ("b", "global"), ("a", "local")])

    def test_torn_of_those_who_are_bound_to_one_that_goes(self):
        p = Process(self.program)
        done(p, ("open", 0), ("open", 1), ("call", "main", 0), ("call", "main", 1), ("call", "b", 0), ("call", "b", 1))
        p.close_door(0)
        slots = (("b", 0, TORN), ("b", 1, ("bound", "b", "")), ("main", 0, TORN), ("main", 1, ("bound", "b", "")))
        self.assertEqual(p.stand()[1], slots)
        self.assertEqual([p.call("main", 0), p.call("b", 0), p.call("b", 1)], [TORN, TORN, ("bound", "b", "")])

    def test_not_torn_while_another_door_has_the_target(self):
        p = Process(self.program)
        done(p, ("open", 0), ("open", 2), ("call", "main", 0), ("close", 0))
        self.assertEqual((p.slot("main", 0), p.public()), (("bound", "a", ""), ["main", "a"]))
        p.close_door(2)
        self.assertEqual(p.slot("main", 0), TORN)

    def test_not_torn_by_the_first_of_two_closings(self):
        p = Process(self.program)
        done(p, ("open", 0), ("open", 0), ("call", "main", 0), ("close", 0))
        self.assertEqual(p.call("main", 0), ("bound", "a", ""))
        p.close_door(0)
        self.assertEqual(p.call("main", 0), TORN)

    def test_stays_torn_when_the_target_comes_again(self):
        p = Process(self.program)
        done(p, ("open", 0), ("call", "main", 0), ("close", 0), ("open", 0))
        self.assertEqual((p.call("main", 0), p.slot("main", 0), p.public()), (TORN, TORN, ["main", "a"]))
        done(p, ("close", 0), ("open", 1))
        self.assertEqual((p.call("main", 0), p.call("main", 1)), (TORN, ("bound", "b", "")))

    def test_a_library_that_goes_loses_its_slots(self):
        p = Process(self.program)
        done(p, ("open", 0), ("open", 1), ("call", "b", 0), ("call", "b", 1))
        p.close_door(1)
        self.assertEqual(p.stand()[1], ())
        p.open_door(1)
        self.assertEqual((p.slot("b", 0), p.slot("b", 1), p.stand()[1]), (None, None, ()))
        done(p, ("call", "b", 0), ("close", 0))
        self.assertEqual(p.slot("b", 0), TORN)
        # torn only as long as its library is there
        done(p, ("close", 1), ("open", 1))
        self.assertEqual((p.slot("b", 0), p.call("b", 0)), (None, LOST))

    def test_nobody_stays_and_lost_does_not(self):
        p = Process(self.program)
        self.assertEqual([p.call("main", 0), p.call("main", 1)], [LOST, NOBODY])
        self.assertEqual((p.slot("main", 0), p.slot("main", 1), p.stand()[1]),
                         (None, NOBODY, (("main", 1, NOBODY),)))
        done(p, ("open", 0), ("open", 1))
        self.assertEqual([p.call("main", 0), p.call("main", 1)], [("bound", "a", ""), NOBODY])
        done(p, ("close", 0), ("close", 1))
        self.assertEqual([p.call("main", 0), p.call("main", 1)], [TORN, NOBODY])

    def test_bound_stays_whatever_comes(self):
        libs = [lib("main", (), (), (F,)), lib("a", (), (("f", ""),)), lib("b", (), (("f", ""),))]
        p = Process(simple(libs, [("a", "global"), ("b", "global"), ("a", "local")]))
        done(p, ("open", 0), ("open", 2), ("call", "main", 0), ("open", 1), ("close", 0))
        self.assertEqual((p.call("main", 0), p.public()), (("bound", "a", ""), ["main", "a", "b"]))


class CallTest(Raising):

    def setUp(self):
        # each library has f, so whoever is looked along first is bound
        libs = [lib("main", (), (), (F,))]
        libs += [lib(name, needs, (("f", ""),), (F,)) for name, needs in
                 (("a", ("x",)), ("b", ("x", "y")), ("x", ()), ("y", ()), ("p", ()))]
        self.libs = libs

    def test_first_row_looks_along_public_alone(self):
        p = Process(simple(self.libs, [("a", "local"), ("x", "global")], ["p"]))
        p.open_door(0)
        self.assertEqual((p.looks("main"), p.looks("p")), (["main", "p"], ["main", "p"]))
        p.open_door(1)
        self.assertEqual(p.looks("main"), ["main", "p", "x"])
        self.assertEqual((p.call("main", 0), p.call("p", 0)), (("bound", "p", ""), ("bound", "p", "")))

    def test_first_row_in_the_row_of_a_door_looks_along_public_alone(self):
        p = Process(simple(self.libs, [("a", "deep"), ("a", "local")], ["x"]))
        done(p, ("open", 0), ("open", 1))
        self.assertEqual((p.looks("x"), p.looks("a")), (["main", "x"], ["a", "x", "main"]))

    def test_another_one_looks_along_public_then_the_rows_that_have_it(self):
        p = Process(simple(self.libs, [("a", "local"), ("b", "local"), ("p", "global"), ("y", "local")]))
        done(p, ("open", 1), ("open", 0), ("open", 3), ("open", 2))
        self.assertEqual(p.looks("x"), ["main", "p", "b", "x", "y", "a"])
        self.assertEqual(p.looks("a"), ["main", "p", "a", "x"])
        self.assertEqual(p.looks("b"), ["main", "p", "b", "x", "y"])
        self.assertEqual(p.looks("y"), ["main", "p", "b", "x", "y"])
        self.assertEqual(p.looks("p"), ["main", "p"])
        self.assertEqual([p.call(name, 0)[1] for name in "abxyp"], ["p"] * 5)

    def test_rows_in_the_open_order(self):
        for first, second, wanted in ((0, 1, ["main", "a", "x", "b", "y"]), (1, 0, ["main", "b", "x", "y", "a"])):
            p = Process(simple(self.libs, [("a", "local"), ("b", "local")]))
            done(p, ("open", first), ("open", second))
            self.assertEqual((p.looks("x"), p.call("x", 0)), (wanted, ("bound", wanted[1], "")))
            done(p, ("close", first), ("open", first))
            self.assertEqual(p.looks("x")[1], wanted[3] if first == 0 else wanted[4])

    def test_a_deep_one_looks_along_the_rows_first(self):
        p = Process(simple(self.libs, [("a", "deep"), ("b", "local"), ("p", "global")]))
        done(p, ("open", 0), ("open", 2), ("open", 1))
        self.assertEqual(p.deep(), ["a", "x"])
        self.assertEqual(p.looks("x"), ["a", "x", "b", "y", "main", "p"])
        self.assertEqual(p.looks("a"), ["a", "x", "main", "p"])
        # b and y are in no row of a deep door
        self.assertEqual(p.looks("b"), ["main", "p", "b", "x", "y"])
        self.assertEqual((p.call("x", 0), p.call("b", 0)), (("bound", "a", ""), ("bound", "p", "")))

    def test_deep_and_public(self):
        p = Process(simple(self.libs, [("b", "deep"), ("b", "global"), ("p", "global")]))
        done(p, ("open", 2), ("open", 0), ("open", 1), ("close", 0))
        self.assertEqual(p.looks("y"), ["b", "x", "y", "main", "p"])

    def test_version_of_the_use_otherwise_the_least(self):
        uses = (("f", "", False), ("f", "a", False), ("f", "b", False), ("f", "c", True), ("g", "", True))
        for defs, wanted in (
                ((("f", ""), ("f", "a"), ("f", "b")), ("", "a", "b", "", None)),
                ((("f", "a"), ("f", "b")), ("a", "a", "b", None, None)),
                ((("f", ""),), ("", "", "", "", None)),
                ((("f", "c"), ("g", "q"), ("g", "z")), ("c", None, None, "c", "q"))):
            p = Process(simple([lib("main", (), (), uses), lib("a", (), defs)], [], ["a"]))
            for i, version in enumerate(wanted):
                unbound = NOBODY if uses[i][2] else LOST
                self.assertEqual(p.call("main", i), unbound if version is None else ("bound", "a", version))

    def test_the_first_that_serves_not_the_best(self):
        libs = [lib("main", (), (), (("f", "a", False),)), lib("p", (), (("f", "b"),)), lib("q", (), (("f", ""),)),
                lib("r", (), (("f", "a"),))]
        p = Process(simple(libs, [], ["p", "q", "r"]))
        self.assertEqual(p.call("main", 0), ("bound", "q", ""))

    def test_a_library_may_be_bound_to_itself(self):
        p = Process(simple([lib("main", (), (("f", ""),), (F,)), lib("a", (), (("f", ""),), (F,))], [("a", "deep")]))
        done(p, ("open", 0))
        self.assertEqual((p.call("main", 0), p.call("a", 0)), (("bound", "main", ""), ("bound", "a", "")))

    def test_wrong_names_and_numbers_in_order(self):
        p = Process(PROGRAM)
        done(p, ("open", 1), ("open", 0), ("call", "main", 0), ("call", "two", 0), ("close", 0))
        before = seen(p)
        for i in (-1, 0, 1, 2, 7, 10 ** 30):
            for action in (p.call, p.slot):
                self.raises(NoLib, "nope", action, "nope", i)
                self.raises(NoLib, "log", action, "log", i)
                self.raises(NotThere, "one", action, "one", i)
            self.raises(NoLib, "nope", p.do, ("call", "nope", i))
            self.raises(NotThere, "one", p.do, ("call", "one", i))
        for name, many in (("main", 2), ("two", 1), ("base", 0)):
            for i in (-1, -2, many, many + 1, 10 ** 30, -10 ** 30):
                self.raises(NoUse, i, p.call, name, i)
                self.raises(NoUse, i, p.slot, name=name, i=i)
                self.raises(NoUse, i, p.do, ("call", name, i))
        self.raises(NoLib, "nope", p.looks, "nope")
        self.raises(NotThere, "one", p.looks, name="one")
        self.assertEqual(seen(p), before)

    def test_do_is_what_the_step_names(self):
        p, q = Process(PROGRAM), Process(PROGRAM)
        told = [p.open_door(1), p.call("main", 1), p.open_door(0), p.call("two", 0), p.close_door(1), p.close_door(2)]
        steps = (("open", 1), ("call", "main", 1), ("open", 0), ("call", "two", 0), ("close", 1), ("close", 2))
        self.assertEqual(done(q, *steps), told)
        self.assertEqual(q, p)
        r = Process(PROGRAM)
        self.assertEqual((done(r, *listed(steps)), r.stand()), (told, p.stand()))


class SameTest(Raising):

    def test_twin_is_equal_and_shares_nothing(self):
        p = Process(PROGRAM)
        done(p, ("open", 2), ("open", 0), ("open", 1), ("call", "main", 0), ("call", "main", 1), ("call", "two", 0))
        before = seen(p)
        twin = p.twin()
        self.assertEqual((type(twin), seen(twin), twin == p), (Process, before, True))
        self.assertIsNot(twin, p)
        done(twin, ("close", 0), ("close", 2), ("open", 1), ("close", 1))
        self.assertEqual(seen(p), before)
        self.assertNotEqual(twin, p)
        other = p.twin()
        after = seen(other)
        done(p, ("call", "one", 0), ("close", 0), ("close", 2), ("close", 1))
        self.assertEqual(seen(other), after)
        self.assertEqual(done(other, ("call", "two", 0), ("close", 0), ("close", 2), ("call", "two", 0)),
                         [("bound", "one", "a"), CLOSED, CLOSED, TORN])

    def test_a_call_of_the_twin_binds_the_twin_alone(self):
        p = Process(PROGRAM)
        p.open_door(0)
        twin = p.twin()
        twin.call("main", 0)
        self.assertEqual((p.slot("main", 0), twin.slot("main", 0)), (None, ("bound", "one", "a")))
        p.call("one", 0)
        self.assertEqual((p.slot("one", 0), twin.slot("one", 0)), (("bound", "one", "a"), None))

    def test_equal_if_programs_and_stands_are(self):
        p, q = Process(PROGRAM), Process(listed(PROGRAM))
        self.assertTrue(p == q)
        self.assertFalse(p != q)
        for step in (("open", 0), ("open", 0), ("open", 1), ("call", "main", 1), ("close", 0), ("close", 1)):
            p.do(step)
            self.assertFalse(p == q)
            self.assertTrue(p != q)
            q.do(step)
            self.assertTrue(p == q)
        # another way to the same stand
        done(q, ("open", 2), ("close", 2), ("open", 0), ("open", 0), ("close", 0))
        self.assertEqual(p, q)
        # a lost call leaves nothing behind
        p, q = Process(PROGRAM), Process(PROGRAM)
        self.assertEqual((p.call("main", 0), p == q), (LOST, True))

    def test_unequal(self):
        orders = [Process(PROGRAM), Process(PROGRAM)]
        done(orders[0], ("open", 1), ("open", 2))
        done(orders[1], ("open", 2), ("open", 1))
        self.assertNotEqual(*orders)
        weak = (MAIN[:3] + ((("log", "", True), ("plug", "", True)),), ONE, TWO, BASE)
        others = [(PROGRAM[0], (), DOORS[:2]), (PROGRAM[0], (), (DOORS[0], DOORS[1], ("two", "deep"))),
                  (PROGRAM[0], ("base",), DOORS), (weak, (), DOORS), (PROGRAM[0][:1] + PROGRAM[0][:0:-1], (), DOORS)]
        for other in others:
            self.assertNotEqual(Process(PROGRAM), Process(other))

    def test_nothing_else_is_equal(self):
        p = Process(PROGRAM)
        for other in (None, True, 1, 0, "", (), [], PROGRAM, p.stand(), p.base(), repr(p), Process, object()):
            self.assertIs(p == other, False)
            self.assertIs(other == p, False)
            self.assertIs(p != other, True)

    def test_len_and_repr(self):
        p = Process(PROGRAM)
        for step, many, doors in (
                (("open", 1), 3, 1), (("open", 1), 3, 1), (("open", 0), 4, 2), (("open", 2), 4, 3),
                (("close", 1), 4, 3), (("close", 1), 3, 2), (("close", 0), 3, 1), (("close", 2), 1, 0)):
            p.do(step)
            self.assertEqual((len(p), repr(p)), (many, f"Process({doors} doors open, {many} libraries)"))

    def test_returned_lists_are_new(self):
        p = Process(PROGRAM)
        done(p, ("open", 2), ("open", 0), ("call", "main", 0))
        before = copy.deepcopy(seen(p))
        for told in (p.counts(), p.opened(), p.there(), p.public(), p.deep(), p.looks("main"), p.looks("one")):
            told.append("x")
            told[0] = 7
            told.reverse()
        self.assertEqual(seen(p), before)
        for told in ((p.public(), p.public()), (p.looks("main"), p.public()), (p.counts(), p.counts())):
            self.assertIsNot(told[0], told[1])

    def test_a_program_that_is_changed_behind_it(self):
        lists = listed((PROGRAM[0], ("base",), DOORS))
        kept = copy.deepcopy(lists)
        p, q = Process(lists), Process((PROGRAM[0], ("base",), DOORS))
        steps = (("open", 1), ("call", "main", 0), ("open", 0), ("call", "two", 0), ("call", "one", 0), ("close", 0))
        done(p, *steps[:2])
        self.assertEqual(lists, kept)
        lists[0][1][1].clear()
        lists[0][1][2][0][1] = "b"
        lists[0][3][2].clear()
        lists[0][0][3].pop()
        lists[2][0][1] = "deep"
        lists[2].pop()
        lists[1].clear()
        lists[0].pop()
        done(p, *steps[2:])
        done(q, *steps)
        self.assertEqual(p, q)
        self.assertEqual(seen(p.twin()), seen(q))

    def test_queries_change_nothing(self):
        p, q = Process(PROGRAM), Process(PROGRAM)
        for step in (("open", 1), ("call", "two", 0), ("open", 2), ("call", "one", 0), ("close", 1), ("close", 2)):
            self.assertEqual(seen(p), seen(p))
            p.do(step)
            q.do(step)
        self.assertEqual(seen(p), seen(q))


if __name__ == "__main__":
    unittest.main()
