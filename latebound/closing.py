"""Closing the doors of a Process: what it would tear, and orders in which it tears little."""

from itertools import permutations

from latebound.errors import NotOpen
from latebound.process import TORN


def tears(process, k):
    """The pairs (name, i) of the slots that closing door k once would tear now, ascending; raises NoDoor(k)."""
    return closed(process.twin(), k)


def torn_by(process, order):
    """The pairs (name, i) of the slots that become torn while these doors are shut in this order, ascending.

    Raises NotOpen(k) for the first one that is no door, or not open.
    """
    for k in order:
        if k not in process.opened():
            raise NotOpen(k)
    other = process.twin()
    found = {}
    for k in order:
        while k in other.opened():
            for slot in closed(other, k):
                found[slot] = True
    return sorted(found)


def calm_order(process):
    """The least order of all open doors in which shutting them tears as few slots as can be."""
    doors = sorted(process.opened())
    return min(list(permutations(doors)), key=lambda order: len(torn_by(process, order)))


def quiet_order(process):
    """The least order of as many open doors as can be in which shutting them tears no slot."""
    doors = sorted(process.opened())
    for size in range(len(doors), 0, -1):
        for order in permutations(doors, size):
            if not torn_by(process, order):
                return order
    return ()


def closed(process, k):
    """Closes door k of the Process once: the pairs (name, i) of the slots that this tears, ascending."""
    before = slots_torn(process)
    process.close_door(k)
    return [slot for slot in slots_torn(process) if slot not in before]


def slots_torn(process):
    """The pairs (name, i) of the slots that are torn, ascending."""
    return [(name, i) for name, i, answer in process.stand()[1] if answer == TORN]
