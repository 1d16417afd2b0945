import copy
import itertools
import unittest

import model
from latebound import binds
from latebound.binds import always, bindings, dead, shows_answer, without
from latebound.data import is_program
from latebound.errors import NoLib, NoUse
from latebound.runs import run
from samples import DOORS, PROGRAM, Raising, lib, listed, nested, replaced

LOW, MID = ("low", (), (("f", "one"), ("g", "")), ()), ("mid", ("low",), (("f", ""),), (("f", "two", False),))
TOP = ("top", (), (("f", "two"),), ())
# the example of section 6 of the document
LIBS = (("main", (), (), (("f", "", False), ("g", "one", True))), LOW, MID, TOP)
SIX = (LIBS, (), (("mid", "global"), ("top", "global"), ("mid", "deep")))
SMALL = [model.random_program(seed, libs=2 + seed % 3, doors=1 + seed % 2) for seed in range(50)]
ANSWERS = (("nobody",), ("lost",), ("torn",), ("away",), ("opened",), ("bound", "mid", ""), ("bound", "top", "two"),
           ("bound", "top", ""), ("bound", "low", "one"), ("bound", "mid", "nix"), ("bound", "nope", ""))


class CallsTest(Raising):

    def checks_calls(self, action):
        """The action, given a program, a name and a number, raises NoLib, then NoUse."""
        for i in (-1, 0, 5, 10 ** 30):
            self.raises(NoLib, "nope", action, SIX, "nope", i)
            self.raises(NoLib, "f", action, listed(SIX), "f", i)
        for name, many in (("main", 2), ("mid", 1), ("low", 0)):
            for i in (-1, -2, many, many + 1, 10 ** 30, -10 ** 30):
                self.raises(NoUse, i, action, SIX, name, i)
                self.raises(NoUse, i, action, program=SIX, name=name, i=i)


class BindingsTest(CallsTest):

    def test_example(self):
        self.assertEqual(bindings(SIX, "main", 0), [
            (("bound", "mid", ""), (("open", 0), ("call", "main", 0))),
            (("bound", "top", "two"), (("open", 1), ("call", "main", 0))), (("lost",), (("call", "main", 0),))])
        self.assertEqual(bindings(SIX, "mid", 0), [
            (("bound", "mid", ""), (("open", 0), ("call", "mid", 0))),
            (("bound", "top", "two"), (("open", 1), ("open", 0), ("call", "mid", 0)))])

    def test_defined_in_this_file(self):
        for function in (bindings, always, shows_answer, dead, without, binds.hides, binds.fewest_hides):
            self.assertEqual(function.__module__, binds.__name__)

    def test_never_there(self):
        program = (LIBS, (), (("top", "global"),))
        self.assertEqual((bindings(program, "mid", 0), always(program, "mid", 0)), ([], None))

    def test_the_least_of_several_shortest_runs(self):
        libs = (lib("main", (), (), (("f", "", False),)), lib("a", ("x",)), lib("b", ("x",)),
                lib("x", (), (("f", ""),)))
        doors = (("a", "local"), ("b", "global"), ("a", "global"))
        self.assertEqual(bindings((libs, (), doors), "main", 0)[0],
                         (("bound", "x", ""), (("open", 1), ("call", "main", 0))))
        # c is there by door 0 or 1; door 2 alone brings y
        libs = (lib("main"), lib("a", ("c",)), lib("b", ("c",)), lib("c", (), (), (("f", "", True),)),
                lib("y", (), (("f", ""),)))
        told = bindings((libs, (), (("b", "local"), ("a", "deep"), ("y", "global"))), "c", 0)
        self.assertEqual(told, [(("bound", "y", ""), (("open", 0), ("open", 2), ("call", "c", 0))),
                                (("nobody",), (("open", 0), ("call", "c", 0)))])

    def test_a_run_that_closes(self):
        # b is public without a only behind a closing, as door 1 keeps it there
        libs = (lib("main", (), (), (("f", "", False),)), lib("a", ("b",), (("f", "one"),)), lib("b", (), (("f", ""),)))
        self.assertEqual(bindings((libs, (), (("a", "global"), ("b", "local"))), "main", 0), [
            (("bound", "a", "one"), (("open", 0), ("call", "main", 0))),
            (("bound", "b", ""), (("open", 0), ("open", 1), ("close", 0), ("call", "main", 0))),
            (("lost",), (("call", "main", 0),))])

    def test_beside_a_search_over_all_states(self):
        calls = 0
        for program in SMALL:
            for (name, i), found in model.answers(program).items():
                self.assertEqual(bindings(program, name, i), sorted(found.items()), (program, name, i))
                only = list(found)[0] if len(found) == 1 else None
                self.assertEqual(always(program, name, i), only)
                calls += 1
        self.assertGreater(calls, 100)

    def test_beside_all_runs_up_to_some_length(self):
        for program in SMALL[:12] + [(SIX[0], (), SIX[2][:2])]:
            longest = 4 if len(model.call_steps(program)) < 6 else 3
            for (name, i), found in model.answers_in_short_runs(program, longest).items():
                told = [pair for pair in bindings(program, name, i) if len(pair[1]) <= longest]
                self.assertEqual(told, sorted(found.items()), (program, name, i))

    def test_larger_programs_beside_a_search_over_doors(self):
        for seed in range(6):
            program = model.random_program(seed, libs=7, doors=3, defs=4, uses=4)
            for (name, i), ways in model.looked_by_all(program).items():
                told = bindings(program, name, i)
                self.assertEqual([answer for answer, _ in told], sorted(model.answers_looked(program, name, i, ways)))
                for answer, steps in told:
                    self.assertEqual((steps[-1], run(program, steps)[-1]), (("call", name, i), answer))
                    self.assertTrue(shows_answer(program, name, i, answer, steps))

    def test_wrong_calls(self):
        self.checks_calls(bindings)

    def test_lists_and_kinds(self):
        told = bindings(name="main", i=0, program=listed(SIX))
        self.assertEqual(told, bindings(SIX, "main", 0))
        self.assertIs(type(told), list)
        for pair in told:
            for part in (pair, *pair, *pair[1]):
                self.assertIs(type(part), tuple)

    def test_arguments_stay_and_results_are_new(self):
        program = listed(SIX)
        bindings(program, "main", 0).clear()
        self.assertEqual((len(bindings(program, "main", 0)), program), (3, listed(SIX)))


class AlwaysTest(CallsTest):

    def test_example(self):
        self.assertIsNone(always(SIX, "main", 1))

    def test_one_alone(self):
        self.assertEqual(always((LIBS, (), (("top", "local"),)), "main", 0), ("lost",))
        self.assertEqual(always((LIBS, (), (("top", "local"),)), "main", 1), ("nobody",))
        self.assertEqual(always((LIBS, (), (("mid", "global"),)), "mid", 0), ("bound", "mid", ""))
        self.assertEqual(always((LIBS, ("top",), (("mid", "global"),)), "main", 0), ("bound", "top", "two"))

    def test_wrong_calls(self):
        self.checks_calls(always)

    def test_lists(self):
        self.assertEqual(always(program=listed((LIBS, ("top",), ())), name="main", i=0), ("bound", "top", "two"))


class ShowsAnswerTest(CallsTest):

    def shows(self, program, name, i, reply, thing):
        """What the document says of a thing that is a tuple of STEPs."""
        if not thing or thing[-1] != ("call", name, i):
            return False
        state = model.start(program)
        for step in thing[:-1]:
            _, state = model.step_from(program, state, step)
        there = name in model.there_in(program, state) and model.slot_in(state, name, i) is None
        return there and model.called(program, state, name, i)[0] == reply

    def answer(self, wanted, *given):
        self.assertIs(shows_answer(*given), wanted, given[1:])

    def test_runs_with_one_step_changed_left_out_or_doubled(self):
        shown = 0
        for program in SMALL[:25] + [SIX]:
            steps = model.call_steps(program) + model.door_steps(program)
            for _, name, i in model.call_steps(program):
                for answer, way in bindings(program, name, i):
                    self.answer(True, program, name, i, answer, way)
                    others = [way[:at] + way[at + 1:] for at in range(len(way))]
                    others += [way[:at] + way[at:at + 1] + way[at:] for at in range(len(way))]
                    others += [way[:at] + (step,) + way[at + 1:] for at in range(len(way)) for step in steps]
                    others += [way[:at] + (step,) + way[at:] for at in range(len(way) + 1) for step in steps]
                    for other in others:
                        wanted = self.shows(program, name, i, answer, other)
                        self.answer(wanted, program, name, i, answer, other)
                        shown += wanted
        self.assertGreater(shown, 500)

    def test_all_short_runs_and_all_answers(self):
        program = (SIX[0], (), SIX[2][:2])
        steps = model.call_steps(program) + model.door_steps(program)
        for many in range(4):
            for thing in itertools.product(steps, repeat=many):
                for name, i in (("main", 0), ("mid", 0)):
                    for reply in ANSWERS:
                        if many < 3 or thing[-1] == ("call", name, i):
                            self.answer(self.shows(program, name, i, reply, thing), program, name, i, reply, thing)

    def test_steps_that_change_nothing_or_are_away(self):
        way = (("close", 2), ("call", "mid", 0), ("open", 1), ("open", 1), ("open", 1), ("call", "main", 1),
               ("open", 0), ("call", "main", 0), ("call", "mid", 0))
        self.answer(True, SIX, "mid", 0, ("bound", "top", "two"), way)
        self.answer(False, SIX, "mid", 0, ("bound", "mid", ""), way)

    def test_the_slot_must_be_unbound(self):
        bound = (("open", 0), ("call", "main", 0))
        self.answer(True, SIX, "main", 0, ("bound", "mid", ""), bound)
        self.answer(False, SIX, "main", 0, ("bound", "mid", ""), bound + bound[1:])
        torn = bound + (("close", 0), ("call", "main", 0))
        self.assertEqual(run(SIX, torn)[-1], ("torn",))
        self.answer(False, SIX, "main", 0, ("torn",), torn)
        # a lost call leaves the slot unbound, and a library that came again has new slots
        self.answer(True, SIX, "main", 0, ("lost",), (("call", "main", 0), ("call", "main", 0)))
        again = (("open", 0), ("call", "mid", 0), ("close", 0), ("open", 1), ("open", 0), ("call", "mid", 0))
        self.answer(True, SIX, "mid", 0, ("bound", "top", "two"), again)

    def test_away_is_no_answer_here(self):
        self.answer(False, SIX, "mid", 0, ("away",), (("call", "mid", 0),))

    def test_another_call_at_the_end(self):
        self.answer(False, SIX, "main", 0, ("nobody",), (("call", "main", 1),))
        self.answer(True, SIX, "main", 1, ("nobody",), (("call", "main", 0), ("call", "main", 1)))
        self.answer(False, SIX, "main", 1, ("nobody",), (("call", "main", 1), ("open", 0)))

    def test_other_values(self):
        way = (("open", 0), ("call", "main", 0))
        reply = ("bound", "mid", "")
        junk = (None, True, False, 0, 1, 3, -1, "", "open", "open 0", (), [], [()], ((),),
                ("open", 0), ("call", "main", 0),
                ("call", "main", True), ("call", "main", False), ("open", True), ("open", False), ("open", "0"),
                (("open", 0),),
                nested(way, 11), nested("a", 12), nested((), 11), ("call", "main"), ("close", 9), ("call", "nope", 0),
                ("call", "main", 2), ("call", "main", -1), ["open", 0], ["call", "main", 0], ("jump", 0))
        for other in junk + (list(way), listed(way), (way,), [way], (way, way), way[1], way + (None,), (None,) + way):
            self.answer(False, SIX, "main", 0, reply, other)
        for other in junk:
            # by repr, as ("open", False) == ("open", 0)
            if repr(other) != repr(way[0]):
                self.answer(False, SIX, "main", 0, reply, replaced(way, (0,), other))
            if repr(other) != repr(way[1]):
                self.answer(False, SIX, "main", 0, reply, replaced(way, (1,), other))
        for path in ((0, 0), (0, 1), (1, 0), (1, 1), (1, 2)):
            for other in (None, True, False, "0", "nope", 7, -1, (), [], (0,), ["main"]):
                self.answer(False, SIX, "main", 0, reply, replaced(way, path, other))

    def test_beyond_the_limits(self):
        way = (("open", 0), ("close", 0), ("call", "main", 0)) * 300
        self.answer(True, SIX, "main", 0, ("lost",), way)

    def test_reply_and_program_as_lists(self):
        way = (("open", 0), ("call", "main", 0))
        self.answer(True, listed(SIX), "main", 0, ["bound", "mid", ""], way)
        self.assertIs(shows_answer(thing=way, reply=["lost"], i=0, name="main", program=SIX), False)
        self.assertIs(shows_answer(thing=way[1:], reply=["lost"], i=0, name="main", program=SIX), True)

    def test_wrong_calls_whatever_thing_is(self):
        for thing in (None, (), 7, "x", [], (("call", "main", 0),), (("call", "nope", 0),), nested(1, 12)):
            self.checks_calls(lambda program, name, i: shows_answer(program, name, i, ("lost",), thing))


class DeadTest(unittest.TestCase):

    def test_example(self):
        self.assertEqual(dead(SIX), [("low", "f", "one")])

    def test_all_or_none(self):
        self.assertEqual(dead(((lib("main", (), (("a", ""), ("b", "x"))),), (), ())),
                         [("main", "a", ""), ("main", "b", "x")])
        self.assertEqual(dead(((lib("main", (), (("a", ""),), (("a", "", False),)),), (), ())), [])
        self.assertEqual(dead(((lib("main"),), (), ())), [])

    def test_ascending_over_the_libraries(self):
        libs = (lib("main", (), (("z", ""),)), lib("c", (), (("b", ""), ("b", "a"))), lib("a", (), (("x", "y"),)))
        self.assertEqual(dead((libs, (), ())), [("a", "x", "y"), ("c", "b", ""), ("c", "b", "a"), ("main", "z", "")])

    def test_a_definition_that_is_meant_only_behind_a_closing(self):
        # c is meant only when door 0 has gone, and door 1 has kept c
        libs = (lib("main", (), (), (("f", "", True),)), lib("a", ("c",), (("f", ""),)), lib("c", (), (("f", "v"),)))
        self.assertEqual(dead((libs, (), (("a", "global"),))), [("c", "f", "v")])
        self.assertEqual(dead((libs, (), (("a", "global"), ("c", "local")))), [])

    def test_beside_a_search_over_all_states(self):
        for program in SMALL:
            live = set()
            for (name, i), found in model.answers(program).items():
                symbol = model.lib_of(program, name)[3][i][0]
                live |= {(answer[1], symbol, answer[2]) for answer in found if answer[0] == "bound"}
            wanted = [definition for definition in model.all_definitions(program) if definition not in live]
            self.assertEqual(dead(program), wanted, program)

    def test_lists(self):
        told = dead(program=listed(SIX))
        self.assertEqual((told, [type(one) for one in told]), ([("low", "f", "one")], [tuple]))
        told.clear()
        self.assertEqual(dead(SIX), [("low", "f", "one")])


class WithoutTest(unittest.TestCase):

    def test_takes_these_alone(self):
        told = without(SIX, [("mid", "f", ""), ("low", "g", "")])
        libs = (LIBS[0], ("low", (), (("f", "one"),), ()), ("mid", ("low",), (), (("f", "two", False),)), TOP)
        self.assertEqual(told, (libs, (), SIX[2]))
        self.assertTrue(is_program(told))

    def test_what_it_does_not_have(self):
        for gone in ([], (), [("low", "f", "")], [("low", "g", "one")], [("nope", "f", "one")], [("main", "f", "")],
                     [("mid", "g", ""), ("top", "f", "")]):
            self.assertEqual(without(SIX, gone), SIX)
        self.assertEqual(without(SIX, [("low", "f", ""), ("top", "f", "two")])[0][:3], LIBS[:3])

    def test_all_sets(self):
        for gone in model.subsets(model.all_definitions(SIX)):
            self.assertEqual(without(SIX, gone), model.stripped(SIX, gone))

    def test_lists_and_kinds(self):
        program = listed((PROGRAM[0], ("base",), DOORS))
        gone = [["one", "log", "a"], ("one", "log", "a"), ["two", "plug", ""]]
        kept = copy.deepcopy((program, gone))
        told = without(definitions=gone, program=program)
        wanted = model.stripped((PROGRAM[0], ("base",), DOORS), [("one", "log", "a"), ("two", "plug", "")])
        self.assertEqual(told, wanted)
        self.assertTrue(is_program(told))
        self.assertEqual((program, gone), kept)
        self.assertEqual(without(SIX, (("top", "f", "two"),)), without(SIX, [["top", "f", "two"]]))


if __name__ == "__main__":
    unittest.main()
