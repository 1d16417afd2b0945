"""Lenses: bases as one call sees them, with less in them than there is, so that there are fewer."""

from latebound.layout import Layout, among, changed_base, first_base, names_there
from latebound.rows import all_calls, gives, unbound_answer, use_of
from latebound.runs import AWAY
from latebound.walks import changes_from


class Lens:
    """What of the bases of a PROGRAM matters for the call of the use i of the LIB of this name.

    What it sees of a base is a base, too. If it sees the same of two bases, no opens and closes with this call behind
    them tell these apart, as far as the call goes; if it sees other things, they may still be alike.
    Raises NoLib(name), NoUse(i).
    """

    def __init__(self, program, name, i):
        use = use_of(program, name, i)
        self.name = name
        self.step = ("call", name, i)
        self.given = answers_given(program, use)
        self.unbound = unbound_answer(use)
        self.layout = Layout(program, list(self.given), [name])
        self.doors = [k for k, names in enumerate(self.layout.rows) if self.comes_with(names)]
        self.near = answers_near(self.layout, name, self.given)
        self.homes = {giver: homes_of(self.layout, giver) for giver in self.given}
        self.seen_parts = ({}, {}, {})
        self.changes = {}
        self.present = {}
        self.start = self.seen(first_base(self.layout))

    def comes_with(self, names):
        """Whether a row of these names brings the LIB that calls, or one that gives something."""
        return any([(name == self.name or name in self.given) and name not in self.layout.first for name in names])

    def seen(self, base):
        """What the lens sees of the base."""
        counts, order, public, deep = base
        shown, orders, publics = self.seen_parts
        if counts not in shown:
            shown[counts] = tuple([count if k in self.doors else 0 for k, count in enumerate(counts)])
        if order not in orders:
            orders[order] = self.seen_order(order)
        if public not in publics:
            publics[public] = self.seen_public(public)
        sunk = (self.name,) if self.near and self.name in deep else ()
        return shown[counts], orders[order], publics[public], sunk

    def seen_order(self, order):
        """The open order of the doors that matter, those last, ascending, along which nothing is found.

        Doors side by side along which the same is found ascend, too: whichever is first, this is found.
        """
        found = []
        for k in among(order, self.near):
            at = len(found)
            while at > 0 and found[at - 1] > k and self.near[found[at - 1]] == self.near[k]:
                at -= 1
            found.insert(at, k)
        return tuple(found + [k for k in self.doors if k in order and k not in self.near])

    def seen_public(self, public):
        """The public LIBs that can be found, now or when others have gone."""
        found = []
        for name in public:
            # whoever stays as long, and stands ahead, hides this one
            if name in self.given and not any([self.homes[name] & ~self.homes[other] == 0 for other in found]):
                found.append(name)
        return tuple(found)

    def moves(self, base):
        """The pairs (step, base) of what closing open doors and opening shut ones leads to, ascending.

        Doors that do not matter are left out.
        """
        counts, order, _, _ = base
        if (counts, order) not in self.changes:
            pairs = changes_from(self.layout, counts, order)
            self.changes[(counts, order)] = [(step, change) for step, change in pairs if step[1] in self.doors]
        return [(step, self.seen(changed_base(base, change))) for step, change in self.changes[(counts, order)]]

    def there_in(self, base):
        """A dict of True for the names of the LIBs that are there, as far as they matter."""
        order = base[1]
        if order not in self.present:
            self.present[order] = names_there(self.layout, order)
        return self.present[order]

    def answer(self, base):
        """What the call is told while its slot is unbound; ("away",) if its LIB is not there."""
        if self.name not in self.there_in(base):
            return AWAY
        _, order, public, deep = base
        shown = first_in(self.given, public)
        beside = first_in(self.near, order)
        if shown is None or (deep and beside is not None):
            shown = beside
        return self.unbound if shown is None else shown


def all_lenses(program):
    """The lenses of all uses."""
    return [Lens(program, name, i) for name, i in all_calls(program)]


def answers_given(program, use):
    """A dict of the LIBs that give something for the use, each with the answer to a call that means it."""
    versions = {lib[0]: gives(program, lib[0], use) for lib in program[0]}
    return {name: ("bound", name, versions[name]) for name in versions if versions[name] is not None}


def answers_near(layout, name, given):
    """A dict of the doors along whose rows the LIB of this name finds something, each with what it finds first."""
    found = {}
    for k, names in enumerate(layout.rows):
        # who is in the first row does not look along rows
        if name in names and name not in layout.first:
            answer = first_in(given, names)
            if answer is not None:
                found[k] = answer
    return found


def first_in(table, keys):
    """What the table has for the first of the keys that it has; None if it has none."""
    for key in keys:
        if key in table:
            return table[key]
    return None


def homes_of(layout, name):
    """A number with a bit for each door that has the LIB of this name, and one for the first row.

    Who is in the first row is always there, so it has all the bits.
    """
    many = len(layout.rows)
    if name in layout.first:
        return (1 << many + 1) - 1
    return sum([1 << k for k in range(many) if name in layout.rows[k]])
