import random
import unittest

import model
import searched
from latebound import session
from latebound.data import is_program
from latebound.errors import NoDoor, NoLib, NoProgram, NothingDone, NotThere, NoUse
from latebound.process import Process
from latebound.session import Session
from samples import PROGRAM, Raising, lib, listed

# the example of sections 11 and 14 of the document
LIBS = (lib("main", (), (), (("f", "", True),)), lib("a", (), (("f", ""),)), lib("b", ("a",), (("g", ""),)))
ONE = (LIBS, (), (("a", "global"), ("b", "local"), ("b", "global")))
BOUND, NOBODY, LOST, TORN = ("bound", "a", ""), ("nobody",), ("lost",), ("torn",)
METHODS = ("__init__", "do", "put", "take", "preload", "add_door", "take_door", "undo", "program", "stand", "many",
           "may", "twin")


def seen(session):
    """All that the queries tell."""
    calls = [step[1:] for step in model.call_steps(session.program())]
    return session.program(), session.stand(), session.many(), [session.may(name, i) for name, i in calls]


class Refusing(Raising):

    def refused(self, s, error, action, *given):
        """The action raises the error, and changes nothing."""
        before = seen(s)
        with self.assertRaises(error) as caught:
            action(*given)
        self.assertIs(type(caught.exception), error)
        self.assertEqual(seen(s), before)
        return list(vars(caught.exception).values())

    def raises_nothing_done(self, s):
        self.assertEqual(self.refused(s, NothingDone, s.undo), [])


class SessionTest(Refusing):

    def test_example(self):
        s = Session(ONE)
        self.assertEqual((s.do(("open", 0)), s.may("main", 0), s.do(("call", "main", 0)), s.may("main", 0), s.undo(),
                          s.take_door(0), s.may("main", 0), s.many()),
                         (("opened",), [BOUND, NOBODY], BOUND, [BOUND, TORN], None, None, [BOUND, NOBODY], 2))

    def test_methods_stand_in_the_class_itself(self):
        self.assertEqual((Session.__module__, Session.__bases__), (session.__name__, (object,)))
        self.assertLessEqual(set(METHODS), set(vars(Session)))

    def test_at_first(self):
        s = Session(program=ONE)
        self.assertEqual((s.program(), s.stand(), s.many()), (ONE, Process(ONE).stand(), 0))
        self.raises_nothing_done(s)

    def test_do(self):
        s, process = Session(ONE), Process(ONE)
        steps = (("open", 0), ("open", 0), ("open", 0), ("call", "main", 0), ("close", 1), ("close", 0), ("close", 0),
                 ("call", "main", 0))
        for many, step in enumerate(steps):
            self.assertEqual(s.do(step), process.do(step))
            self.assertEqual((s.stand(), s.many()), (process.stand(), many + 1))
        self.assertEqual(s.do(step=["open", 1]), ("opened",))

    def test_do_raises_as_the_process(self):
        s = Session(ONE)
        s.do(("open", 1))
        for step, error, worth in ((("open", 3), NoDoor, 3), (("close", -1), NoDoor, -1),
                                   (("call", "nope", 0), NoLib, "nope"),
                                   (("call", "main", 1), NoUse, 1), (("call", "a", -1), NoUse, -1)):
            self.assertEqual(self.refused(s, error, s.do, step), [worth])
        other = Session(ONE)
        self.assertEqual(self.refused(other, NotThere, other.do, ("call", "b", 7)), ["b"])
        self.raises_nothing_done(other)

    def test_put(self):
        s = Session(ONE)
        more, other = lib("c", ("b",), (), (("g", "", False),)), lib("a", (), (("h", ""),))
        self.assertIsNone(s.put(more))
        self.assertEqual(s.program(), (LIBS + (more,),) + ONE[1:])
        self.assertIsNone(s.put(lib=listed(other)))
        self.assertEqual(s.program(), ((LIBS[0], other, LIBS[2], more),) + ONE[1:])
        main = lib("main", ("c",))
        s.put(main)
        self.assertEqual(s.program()[0], (main, other, LIBS[2], more))
        self.assertEqual(s.stand()[0], ((0, 0, 0), (), ("main", "c", "b", "a"), ()))

    def test_put_of_what_is_no_lib(self):
        s = Session(ONE)
        s.put(LIBS[1])
        good = ("c", ("a",), (("f", ""), ("f", "v")), (("f", "", True), ("g", "v", False)))
        self.assertTrue(is_program((LIBS + (good,),) + ONE[1:]))
        for at, parts in enumerate((("", "C", "abcdefghi", None, 0, ("c",), (), "c c", True, "c1"),
                                    (("nope",), ("c",), ("main",), ("a", "a"), "a", None, 0, ("",), (1,), (("a",),),
                                     ("a", "")),
                                    ((("g", ""), ("f", "")), (("f", ""), ("f", "")), ("f",), (("f",),),
                                     (("f", "", ""),), (("", "a"),),
                                     (("f", None),), (("f", 0),), None, "f", 1, ((("f", ""),),), (("f", "V"),)),
                                    ((("f", "", 1),), (("f", "", 0),), (("f", "", None),), (("f", ""),),
                                     (("g", "", True), ("f", "", True)),
                                     (("f", "", False), ("f", "", True)), ("f",), None, 7, (("f", "", "True"),),
                                     (("", "", True),)))):
            for part in parts:
                wrong = good[:at] + (part,) + good[at + 1:]
                self.assertEqual(self.refused(s, NoProgram, s.put, wrong), [])
                self.assertEqual(self.refused(s, NoProgram, s.put, listed(wrong)), [])
        for wrong in ((), ("c",), good[:3], good + ((),), [], [[]]):
            self.assertEqual(self.refused(s, NoProgram, s.put, wrong), [])
        # a LIB, but what comes of it is no PROGRAM
        for wrong in (lib("a", ("main",)), lib("main", ("nope",)), lib("b", ("c",))):
            self.assertEqual(self.refused(s, NoProgram, s.put, wrong), [])
        self.assertEqual(s.many(), 1)

    def test_take(self):
        s = Session(ONE)
        self.assertEqual(self.refused(s, NoLib, s.take, "nope"), ["nope"])
        self.assertEqual(self.refused(s, NoProgram, s.take, "a"), [])
        self.assertEqual(self.refused(s, NoProgram, s.take, "b"), [])
        s.take_door(2)
        s.take_door(1)
        self.assertIsNone(s.take("b"))
        self.assertEqual(s.program(), (LIBS[:2], (), (("a", "global"),)))
        # a door to what would be main then
        self.assertEqual(self.refused(s, NoProgram, s.take, "main"), [])
        s.take_door(0)
        self.assertIsNone(s.take(name="main"))
        self.assertEqual((s.program(), s.stand()), ((LIBS[1:2], (), ()), (((), (), ("a",), ()), ())))
        self.assertEqual(self.refused(s, NoProgram, s.take, "a"), [])
        self.assertEqual(self.refused(s, NoLib, s.take, "main"), ["main"])
        self.assertEqual(s.many(), 5)

    def test_take_of_main(self):
        s = Session((LIBS, ("b",), ()))
        # a would be main, but b needs it
        self.assertEqual(self.refused(s, NoProgram, s.take, "main"), [])
        s = Session(((LIBS[0], lib("z"), LIBS[1], LIBS[2]), ("b",), (("b", "deep"),)))
        s.take("main")
        self.assertEqual(s.program(), ((lib("z"), LIBS[1], LIBS[2]), ("b",), (("b", "deep"),)))
        self.assertEqual(s.stand()[0], ((0,), (), ("z", "b", "a"), ()))

    def test_preload(self):
        s = Session(ONE)
        self.assertIsNone(s.preload(("b",)))
        self.assertEqual((s.program(), s.stand()[0][2]), ((LIBS, ("b",), ONE[2]), ("main", "b", "a")))
        self.assertIsNone(s.preload(names=["a", "b"]))
        self.assertEqual(s.program()[1], ("a", "b"))
        for names in (("main",), ("nope",), ("a", "a"), ("a", "main"), ("",), ("A",)):
            self.assertEqual(self.refused(s, NoProgram, s.preload, names), [])
            self.assertEqual(self.refused(s, NoProgram, s.preload, list(names)), [])
        s.preload(())
        self.assertEqual((s.program(), s.many()), (ONE, 3))

    def test_add_door(self):
        s = Session(ONE)
        self.assertIsNone(s.add_door("a", "deep"))
        self.assertIsNone(s.add_door(mode="local", name="a"))
        self.assertEqual(s.program(), (LIBS, (), ONE[2] + (("a", "deep"), ("a", "local"))))
        self.assertEqual(s.do(("open", 4)), ("opened",))
        for name, mode in (("a", "global"), ("a", "deep"), ("main", "deep"), ("nope", "deep"), ("b", "wide"), ("b", ""),
                           ("", "deep"), ("B", "deep")):
            self.assertEqual(self.refused(s, NoProgram, s.add_door, name, mode), [])
        self.assertEqual(s.many(), 3)

    def test_take_door(self):
        s = Session(ONE)
        for k in (-1, 3, 10 ** 30, -10 ** 30):
            self.assertEqual(self.refused(s, NoDoor, s.take_door, k), [k])
        self.assertIsNone(s.take_door(1))
        self.assertEqual(s.program(), (LIBS, (), (("a", "global"), ("b", "global"))))
        self.assertEqual((s.do(("open", 1)), s.stand()[0][:3]), (("opened",), ((0, 1), (1,), ("main", "b", "a"))))
        self.assertEqual(self.refused(s, NoDoor, s.take_door, 2), [2])
        self.assertIsNone(s.take_door(k=0))
        self.assertIsNone(s.take_door(0))
        self.assertEqual((s.program()[2], s.many()), ((), 4))
        self.assertEqual(self.refused(s, NoDoor, s.take_door, 0), [0])

    def test_a_new_process_behind_each_edit(self):
        for edit in (lambda s: s.put(LIBS[2]), lambda s: s.put(lib("z")), lambda s: s.preload(()),
                     lambda s: s.take("z"), lambda s: s.add_door("b", "deep"), lambda s: s.take_door(2)):
            s = Session((LIBS + (lib("z"),),) + ONE[1:])
            for step in (("open", 0), ("open", 1), ("call", "main", 0)):
                s.do(step)
            before = s.stand()
            edit(s)
            self.assertEqual((s.stand(), s.many()), (Process(s.program()).stand(), 4))
            s.undo()
            self.assertEqual((s.stand(), s.many()), (before, 3))

    def test_edits_and_steps_that_change_nothing_count(self):
        s = Session(ONE)
        s.put(LIBS[1])
        s.preload([])
        s.do(("close", 0))
        self.assertEqual((s.program(), s.stand(), s.many()), (ONE, Process(ONE).stand(), 3))
        for many in (2, 1, 0):
            self.assertIsNone(s.undo())
            self.assertEqual((s.program(), s.stand(), s.many()), (ONE, Process(ONE).stand(), many))
        self.raises_nothing_done(s)

    def test_undo_back_to_the_beginning(self):
        s = Session(ONE)
        states = []
        for at in range(150):
            states.append((s.program(), s.stand()))
            if at % 5 == 4:
                s.preload(("a",) if at % 2 else ())
            elif at % 25 == 12:
                s.put(lib("x" * (1 + at // 25)))
            else:
                s.do((("open", 0), ("call", "main", 0), ("close", 0), ("open", 2))[at % 4])
        self.assertEqual(s.many(), 150)
        for many in reversed(range(150)):
            s.undo()
            self.assertEqual((s.program(), s.stand(), s.many()), states[many] + (many,))
        self.raises_nothing_done(s)
        s.do(("open", 1))
        self.assertEqual(s.many(), 1)

    def test_behind_an_undo_it_goes_on_from_there(self):
        s = Session(ONE)
        for step in (("open", 0), ("call", "main", 0), ("close", 0)):
            s.do(step)
        s.undo()
        self.assertEqual((s.do(("call", "main", 0)), s.do(("close", 0)), s.do(("call", "main", 0))),
                         (BOUND, ("closed",), TORN))
        self.assertEqual(s.many(), 5)
        for _ in range(5):
            s.undo()
        self.assertEqual(s.stand(), Process(ONE).stand())

    def test_may(self):
        s = Session(ONE)
        self.assertEqual(s.may("main", 0), [BOUND, NOBODY])
        s.do(("call", "main", 0))
        self.assertEqual(s.may(i=0, name="main"), [NOBODY])
        libs = (lib("main"), lib("c", (), (), (("f", "", False),)), lib("t", (), (("f", ""),)))
        s = Session((libs, (), (("c", "local"), ("t", "global"))))
        self.assertEqual(s.may("c", 0), [("bound", "t", ""), LOST])
        for step in (("open", 0), ("open", 1), ("call", "c", 0)):
            s.do(step)
        # c can go and come again
        self.assertEqual(s.may("c", 0), [("bound", "t", ""), LOST, TORN])
        self.assertEqual(Session((libs, (), (("t", "global"),))).may("c", 0), [])
        for name, i, error, worth in (("nope", -1, NoLib, "nope"), ("c", 1, NoUse, 1), ("c", -1, NoUse, -1),
                                      ("t", 0, NoUse, 0)):
            self.assertEqual(self.refused(s, error, s.may, name, i), [worth])

    def test_may_beside_a_search_over_all_further_steps(self):
        sizes = {}
        for seed in range(50):
            program = model.lively_program(seed, 2 + seed % 6, 1 + seed % 3, "fg" if seed % 4 else "f")
            for steps in (model.busy_steps(program, seed), model.random_steps(program, seed, 12), ()):
                s = Session(program)
                for step in steps:
                    try:
                        s.do(step)
                    except NotThere:
                        pass
                state = searched.state_behind(program, steps)
                for _, name, i in model.call_steps(program):
                    told = s.may(name, i)
                    self.assertEqual(told, searched.may(program, state, name, i), (program, steps, name, i))
                    sizes[len(told)] = sizes.get(len(told), 0) + 1
                self.assertEqual(s.stand(), (state[:4], state[4]))
        self.assertGreater(min(sizes[many] for many in (0, 1, 2, 3)), 20, sizes)

    def test_twin(self):
        s = Session(ONE)
        s.do(("open", 0))
        s.preload(("b",))
        s.do(("open", 1))
        other = s.twin()
        self.assertIs(type(other), Session)
        before = seen(s)
        self.assertEqual(seen(other), before)
        other.do(("call", "main", 0))
        other.put(lib("z"))
        for _ in range(5):
            other.undo()
        self.raises_nothing_done(other)
        self.assertEqual((seen(s), other.program()), (before, ONE))
        kept = s.twin()
        for _ in range(3):
            s.undo()
        self.assertEqual((seen(kept), s.many()), (before, 0))

    def test_what_is_changed_behind_it_changes_nothing(self):
        program, new, names, step = listed(ONE), listed(lib("c", ("a",), (("g", ""),))), ["a"], ["call", "main", 0]
        s = Session(program)
        program[0][1][2].clear()
        program[2].clear()
        self.assertEqual((s.program(), s.do(step)), (ONE, NOBODY))
        step[0] = "open"
        s.put(new)
        new[2].clear()
        s.preload(names)
        names.append("nope")
        self.assertEqual(s.program(), (LIBS + (lib("c", ("a",), (("g", ""),)),), ("a",), ONE[2]))
        s.may("main", 0).clear()
        self.assertEqual((s.may("main", 0), s.do(("call", "main", 0))), ([BOUND], BOUND))
        for part in (s.program(), s.stand(), s.stand()[0], s.program()[0][3], *s.may("main", 0)):
            self.assertIs(type(part), tuple)
        self.assertIs(type(s.may("main", 0)), list)
        self.assertEqual(listed(PROGRAM), listed(Session(listed(PROGRAM)).program()))


class Plain:
    """A session by the document's words: all programs and steps since the last edit, one behind the other."""

    def __init__(self, program):
        self.past = [(program, ())]

    def stand(self):
        state = searched.state_behind(*self.past[-1])
        return state[:4], state[4]

    def edits(self, dice):
        """An edit: the name of the method, its arguments, and what comes of it, maybe no PROGRAM."""
        libs, preload, doors = self.past[-1][0]
        names = [one[0] for one in libs] + ["nope", "main"]
        kind = dice.randrange(5)
        if kind == 0:
            new = dice.choice(model.lively_program(dice.randrange(99), 5, 1)[0])
            known = [one[0] for one in libs]
            at = known.index(new[0]) if new[0] in known else len(libs)
            return "put", (new,), (libs[:at] + (new,) + libs[at + 1:], preload, doors)
        if kind == 1:
            name = dice.choice(names)
            changed = (tuple(one for one in libs if one[0] != name), preload, doors)
            return "take", (name,), changed if name in [one[0] for one in libs] else NoLib
        if kind == 2:
            chosen = tuple(dice.choice(names) for _ in range(dice.randint(0, 2)))
            return "preload", (chosen,), (libs, chosen, doors)
        if kind == 3:
            door = (dice.choice(names), dice.choice(("global", "local", "deep")))
            return "add_door", door, (libs, preload, doors + (door,))
        k = dice.randint(-1, len(doors))
        return "take_door", (k,), (libs, preload, doors[:k] + doors[k + 1:]) if 0 <= k < len(doors) else NoDoor


class RandomTest(Refusing):

    def test_beside_a_plain_session(self):
        counts = {}
        for seed in range(60):
            dice = random.Random(seed)
            program = model.lively_program(seed, 2 + seed % 4, 1 + seed % 3)
            s, plain = Session(program), Plain(program)
            for _ in range(60):
                kind = self.one(s, plain, dice)
                counts[kind] = counts.get(kind, 0) + 1
                self.assertEqual((s.program(), s.stand(), s.many()),
                                 (plain.past[-1][0], plain.stand(), len(plain.past) - 1))
            new = Session(s.program())
            for step in plain.past[-1][1]:
                new.do(step)
            self.assertEqual(seen(s)[3], seen(new)[3])
        for kind in ("done", "refused step", "undone", "nothing done", NoLib, NoDoor, "edited", NoProgram):
            self.assertGreater(counts.get(kind, 0), 20, counts)

    def one(self, s, plain, dice):
        program, steps = plain.past[-1]
        kind = dice.randrange(10)
        if kind < 5:
            step = dice.choice(model.call_steps(program) + 3 * model.door_steps(program) or [("open", 0)])
            told = model.step_from(program, searched.state_behind(program, steps),
                                   step)[0] if program[2] or step[0] == "call" else None
            if told in (None, ("away",)):
                self.refused(s, NoDoor if told is None else NotThere, s.do, step)
                return "refused step"
            self.assertEqual(s.do(step), told)
            plain.past.append((program, steps + (step,)))
            return "done"
        if kind < 7:
            if len(plain.past) == 1:
                self.raises_nothing_done(s)
                return "nothing done"
            self.assertIsNone(s.undo())
            plain.past.pop()
            return "undone"
        name, given, changed = plain.edits(dice)
        if changed in (NoLib, NoDoor) or not is_program(changed):
            error = changed if changed in (NoLib, NoDoor) else NoProgram
            self.refused(s, error, getattr(s, name), *given)
            return error
        self.assertIsNone(getattr(s, name)(*given))
        plain.past.append((changed, ()))
        return "edited"


if __name__ == "__main__":
    unittest.main()
