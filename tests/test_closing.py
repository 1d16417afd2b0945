import itertools
import unittest

import model
import searched
from latebound import closing
from latebound.closing import calm_order, quiet_order, tears, torn_by
from latebound.errors import NoDoor, NotOpen
from latebound.process import Process
from latebound.runs import told
from samples import Raising, lib, listed

F, G, H = ("f", "", False), ("g", "", False), ("h", "", False)
# the example of sections 7 and 8 of the document
MAIN, LEFT, RIGHT = lib("main", (), (), (F,)), lib("left", (), (("f", ""),), (G,)), lib("right", (), (("g", ""),))
DOORS = (("left", "global"), ("right", "global"))
SEVEN = ((MAIN, LEFT, RIGHT), (), DOORS)


def led(program, *steps):
    process = Process(program)
    for step in steps:
        told(process, step)
    return process


def asked(process, order):
    """All that the functions tell of the Process."""
    return (torn_by(process, order), calm_order(process), quiet_order(process),
            [tears(process, k) for k in range(len(process.counts()))])


class ClosingTest(Raising):

    def test_example(self):
        process = Process(SEVEN)
        done = [process.do(step) for step in (("open", 0), ("open", 1), ("open", 1), ("call", "left", 0))]
        self.assertEqual(done, [("opened",), ("opened",), ("opened",), ("bound", "right", "")])
        self.assertEqual((tears(process, 1), torn_by(process, [1, 0]), calm_order(process), quiet_order(process)),
                         ([], [("left", 0)], (0, 1), (0, 1)))
        self.assertEqual((process.do(("call", "main", 0)), process.do(("close", 1))),
                         (("bound", "left", ""), ("closed",)))
        self.assertEqual((tears(process, 0), tears(process, 1)), ([("main", 0)], [("left", 0)]))
        self.assertEqual((calm_order(process), torn_by(process, calm_order(process)), quiet_order(process)),
                         ((0, 1), [("main", 0)], ()))

    def test_defined_in_this_file(self):
        for function in (tears, torn_by, calm_order, quiet_order):
            self.assertEqual(function.__module__, closing.__name__)

    def test_no_open_door(self):
        for process in (Process(SEVEN), Process(((MAIN,), (), ())), led(SEVEN, ("open", 0), ("close", 0))):
            self.assertEqual((torn_by(process, []), calm_order(process), quiet_order(process)), ([], (), ()))
        self.assertEqual((tears(Process(SEVEN), 0), tears(Process(SEVEN), 1)), ([], []))

    def test_a_door_that_is_open_twice_is_closed_twice(self):
        process = led(SEVEN, ("open", 0), ("open", 0), ("call", "main", 0))
        self.assertEqual((tears(process, 0), torn_by(process, [0]), quiet_order(process)), ([], [("main", 0)], ()))
        process.close_door(0)
        self.assertEqual((tears(process, 0), torn_by(process, [0])), ([("main", 0)], [("main", 0)]))

    def test_slots_that_are_torn_already(self):
        process = led(SEVEN, ("open", 0), ("call", "main", 0), ("close", 0), ("open", 0), ("open", 1))
        self.assertEqual(process.slot("main", 0), ("torn",))
        self.assertEqual((tears(process, 0), torn_by(process, (1, 0)), calm_order(process), quiet_order(process)),
                         ([], [], (0, 1), (0, 1)))

    def test_a_library_that_goes_itself_later(self):
        process = led(SEVEN, ("open", 0), ("open", 1), ("call", "left", 0))
        self.assertEqual(torn_by(process, [1, 0]), [("left", 0)])
        self.assertEqual(torn_by(process, [0, 1]), [])

    def test_a_library_that_goes_with_its_target(self):
        libs = (lib("main"), lib("a", ("b",), (), (F,)), lib("b", (), (("f", ""),), (F,)))
        process = led((libs, (), (("a", "local"),)), ("open", 0), ("call", "a", 0), ("call", "b", 0))
        self.assertEqual((tears(process, 0), torn_by(process, [0]), quiet_order(process)), ([], [], (0,)))

    def test_ascending_and_each_once(self):
        libs = (lib("z", (), (), (F, G)), lib("b", (), (), (F, G, H)), lib("a", (), (("f", ""), ("g", ""), ("h", ""))))
        steps = [("open", 0), ("open", 1)] + [("call", name, i) for name, many in (("z", 2), ("b", 3))
                                              for i in range(many)]
        process = led((libs, (), (("a", "global"), ("b", "deep"))), *steps)
        slots = [("b", 0), ("b", 1), ("b", 2), ("z", 0), ("z", 1)]
        self.assertEqual((tears(process, 0), torn_by(process, [0, 1]), torn_by(process, [1, 0])),
                         (slots, slots, slots[3:]))
        self.assertEqual((calm_order(process), quiet_order(process)), ((1, 0), (1,)))

    def test_the_least_order(self):
        libs = (lib("main", (), (), (F,)), lib("a", (), (("f", ""),), (G,)), lib("b", (), (("g", ""),), (H,)),
                lib("c", (), (("h", ""),)))
        doors = (("c", "global"), ("b", "global"), ("a", "global"))
        opens = [("open", 2), ("open", 0), ("open", 1)]
        self.assertEqual(calm_order(led((libs, (), doors), *opens)), (0, 1, 2))
        process = led((libs, (), doors), *opens, ("call", "a", 0), ("call", "b", 0))
        self.assertEqual((calm_order(process), quiet_order(process)), ((2, 1, 0), (2, 1, 0)))
        process = led((libs, (), doors), *opens, ("call", "b", 0))
        self.assertEqual((calm_order(process), quiet_order(process)), ((1, 0, 2), (1, 0, 2)))
        process = led((libs, (), doors), *opens, ("call", "main", 0))
        self.assertEqual((calm_order(process), quiet_order(process)), ((0, 1, 2), (0, 1)))

    def test_beside_a_search_over_all_orders(self):
        found = {}
        for seed in range(1000):
            program = model.lively_program(seed, 2 + seed % 6, 1 + seed % 4, "fg" if seed % 3 else "f")
            steps = model.busy_steps(program, seed, seed % 3)
            process, state = led(program, *steps), searched.state_behind(program, steps)
            self.assertEqual(process.stand(), (state[:4], state[4]))
            doors = sorted(state[1])
            torn = {order: searched.shut_all(program, state, order) for many in range(len(doors) + 1)
                    for order in itertools.permutations(doors, many)}
            for order in torn:
                self.assertEqual(torn_by(process, order), torn[order])
            calm = min((order for order in torn if len(order) == len(doors)),
                       key=lambda order: (len(torn[order]), order))
            quiet = min((order for order in torn if not torn[order]), key=lambda order: (-len(order), order))
            self.assertEqual((calm_order(process), quiet_order(process)), (calm, quiet))
            for k in range(len(program[2])):
                _, behind = model.closed(program, state, k)
                before = [slot[:2] for slot in state[4] if slot[2] == ("torn",)]
                self.assertEqual(tears(process, k), [slot[:2] for slot in behind[4]
                                                     if slot[2] == ("torn",) and slot[:2] not in before])
            self.assertEqual(process.stand(), (state[:4], state[4]))
            for key in (("calm", len(torn[calm])), ("quiet", len(quiet) - len(doors)), ("least", calm == tuple(doors))):
                found[key] = found.get(key, 0) + 1
        for key in (("calm", 0), ("calm", 1), ("calm", 2), ("quiet", 0), ("quiet", -1), ("quiet", -2),
                    ("least", False), ("least", True)):
            self.assertGreater(found.get(key, 0), 2, (key, found))

    def test_no_door(self):
        process = led(SEVEN, ("open", 0), ("call", "main", 0))
        before = process.twin()
        for k in (-1, 2, 10 ** 30, -10 ** 30):
            self.raises(NoDoor, k, tears, process, k)
            self.raises(NoDoor, k, tears, k=k, process=process)
        self.assertEqual(process, before)

    def test_not_open(self):
        process = led(SEVEN, ("open", 0), ("call", "main", 0), ("open", 1), ("close", 1))
        before = process.twin()
        for order, worth in (([1], 1), ([0, 1], 1), ([2], 2), ([-1], -1), ((0, 9, 1), 9), ([1, 9], 1), ([0, -3], -3),
                             ([10 ** 30], 10 ** 30)):
            self.raises(NotOpen, worth, torn_by, process, order)
            self.raises(NotOpen, worth, torn_by, order=order, process=process)
        self.assertEqual(process, before)

    def test_the_process_stays_and_results_are_new(self):
        process = led(listed(SEVEN), ("open", 1), ("open", 0), ("open", 1), ("call", "left", 0), ("call", "main", 0))
        before, order = process.twin(), [1, 0]
        first = asked(process, order)
        tears(process, 0).clear()
        torn_by(process, order).clear()
        self.assertEqual((asked(process, order), process, order), (first, before, [1, 0]))
        self.assertEqual(torn_by(process, (1, 0)), torn_by(order=[1, 0], process=process))
        self.assertEqual([type(told) for told in first], [list, tuple, tuple, list])
        self.assertEqual([type(part) for part in first[0] + first[3]], [tuple, tuple, list, list])


if __name__ == "__main__":
    unittest.main()
