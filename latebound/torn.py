"""Calls that can lose their target, and the doors that keep them from it."""

from itertools import permutations

from latebound.data import ascends, is_below
from latebound.errors import Ring
from latebound.layout import Layout
from latebound.lenses import Lens, all_lenses
from latebound.nodes import called, moves_of
from latebound.process import TORN
from latebound.rows import check_doors
from latebound.runs import AWAY
from latebound.searches import fewest, runs_from, way_to


def torn(program):
    """The triples (name, i, target) of the slots that in some RUN are bound to the target and then torn, ascending."""
    return sorted([lens.step[1:] + (target,) for lens in all_lenses(program) for target in targets_lost(lens)])


def tearing_run(program, name, i, pins=()):
    """The shortest RUN that closes none of the pins and ends with this call, told ("torn",); None if there is none."""
    lens = Lens(program, name, i)
    check_doors(program, pins)

    def moves(node):
        return [(lens.step, called(lens, node))] + unpinned(moves_of(lens, node), pins)

    way = way_to((lens.start, None), moves, lambda node: node[1] == TORN)
    return None if way is None else way + (lens.step,)


def fewest_pins(program, calls):
    """The fewest doors with which, as pins, none of the calls can be torn, ascending."""
    lenses = [Lens(program, name, i) for name, i in calls]
    return list(fewest(len(program[2]), lambda pins: are_held(lenses, pins)))


def shows_pins(program, calls, thing):
    """Whether thing is an ascending list of doors with which, as pins, none of the calls can be torn."""
    lenses = [Lens(program, name, i) for name, i in calls]
    many = len(program[2])
    if not isinstance(thing, list) or not all([is_below(k, many) for k in thing]):
        return False
    return ascends(thing) and are_held(lenses, thing)


def steady_order(program):
    """The least order of all doors in which closing them never tears a slot outside of the first row; raises Ring."""
    ahead = pairs_ahead(program)
    left = list(range(len(program[2])))
    found = []
    while left:
        free = [k for k in left if not any([(other, k) in ahead for other in left])]
        if not free:
            raise Ring(shortest_ring(ahead, left))
        found.append(free[0])
        left.remove(free[0])
    return tuple(found)


def targets_lost(lens, pins=()):
    """The targets, ascending, to which the slot of the call can be bound, and then torn, while no pin is closed."""
    rows = lens.layout.rows
    found = {}
    for answer, order in answers_seen(lens, pins):
        if answer[0] == "bound":
            # a pin that is open keeps for ever what it has
            held = any([k in pins and answer[1] in rows[k] for k in order])
            if not held and can_go(lens.layout, lens.name, answer[1]):
                found[answer[1]] = True
    return sorted(found)


def answers_seen(lens, pins=()):
    """The pairs (answer, open order) of the call, its slot being unbound, in all bases, while no pin is closed."""
    found = {}
    for base in runs_from(lens.start, lambda other: unpinned(lens.moves(other), pins)):
        answer = lens.answer(base)
        if answer != AWAY:
            found[(answer, base[1])] = True
    return list(found)


def can_go(layout, name, target):
    """Whether the target can go while the LIB of this name stays, wherever both are there."""
    if target in layout.first:
        return False
    # any such door can be opened, too, ahead of closing those that have the target
    return name in layout.first or any([name in names and target not in names for names in layout.rows])


def unpinned(moves, pins):
    """Those of the moves that close no pin."""
    return [(step, reached) for step, reached in moves if step[0] == "open" or step[1] not in pins]


def are_held(lenses, pins):
    """Whether none of their calls can be torn while no pin is closed."""
    return all([targets_lost(lens, pins) == [] for lens in lenses])


def pairs_ahead(program):
    """A dict of True for the pairs of doors of which the first one must be closed ahead of the second one."""
    layout = Layout(program)
    found = {}
    for name, _, target in torn(program):
        if name in layout.first:
            continue
        callers = [k for k, names in enumerate(layout.rows) if name in names and target not in names]
        holders = [k for k, names in enumerate(layout.rows) if target in names]
        for first in callers:
            for second in holders:
                found[(first, second)] = True
    return found


def shortest_ring(ahead, doors):
    """The shortest tuple of these doors of which each goes ahead of the next, and the last one ahead of the first."""
    for many in range(2, len(doors) + 1):
        for ring in permutations(doors, many):
            if all([(ring[at - 1], ring[at]) in ahead for at in range(many)]):
                return ring
    return ()
