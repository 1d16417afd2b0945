"""Nodes: what a lens sees of a base, and the slot of its call, None if it is unbound; a pair (base, slot)."""

from latebound.process import answer_left
from latebound.rows import LOST
from latebound.runs import AWAY


def node_of(lens, process):
    """The node of a Process."""
    slots = {(name, i): answer for name, i, answer in process.stand()[1]}
    return lens.seen(process.base()), slots.get(lens.step[1:])


def reply(lens, node):
    """What the call is told in this node; ("away",) if its LIB is not there."""
    base, slot = node
    return lens.answer(base) if slot is None else slot


def called(lens, node):
    """The node behind the call."""
    answer = reply(lens, node)
    # a lost call looks again the next time
    return node if answer in (LOST, AWAY) else (node[0], answer)


def moves_of(lens, node):
    """The pairs (step, node) of what closing open doors and opening shut ones leads to, ascending."""
    base, slot = node
    return [(step, (other, slot_left(lens, other, slot))) for step, other in lens.moves(base)]


def slot_left(lens, base, slot):
    """What is left of the slot in this base."""
    there = lens.there_in(base)
    if slot is None or lens.name not in there:
        return None
    return answer_left(slot, there)
