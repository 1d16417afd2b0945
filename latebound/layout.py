"""Bases: what opening and closing doors makes of them, and along what the libraries look then.

A base is a tuple (counts, open order, public, deep), each a tuple.
"""

from latebound.rows import add_new, first_row, row


class Layout:
    """What of a PROGRAM settles its bases.

    With public and deep, each some names, the bases tell only of these whether they are public, or deep: who else is so
    does not matter for them, and there are fewer bases to go along.
    """

    def __init__(self, program, public=None, deep=None):
        doors = program[2]
        self.first = first_row(program)
        self.rows = [row(program, (name,)) for name, _ in doors]
        self.first_seen = among(self.first, public)
        self.rows_seen = [among(names, public) for names in self.rows]
        self.into_public = [among(self.rows[k], public) if doors[k][1] == "global" else [] for k in range(len(doors))]
        self.into_deep = [among(self.rows[k], deep) if doors[k][1] == "deep" else [] for k in range(len(doors))]


def among(names, wanted):
    """Those of the names that are wanted; all of them if wanted is None."""
    return [name for name in names if wanted is None or name in wanted]


def first_base(layout):
    """The base at the beginning."""
    return ((0,) * len(layout.rows), (), tuple(layout.first_seen), ())


def opened_base(layout, base, k):
    """The base behind opening door k once more."""
    return changed_base(base, opening(layout, base[0], base[1], k))


def closed_base(layout, base, k):
    """The base behind closing door k, which is open, once."""
    return changed_base(base, closing(layout, base[0], base[1], k))


def opening(layout, counts, order, k):
    """What opening door k once more changes in a base with these counts and this open order, see changed_base."""
    counts = with_count(counts, k, counts[k] + 1)
    if k in order:
        return counts, order, [], [], []
    there = names_there(layout, order)
    fresh = [name for name in layout.into_deep[k] if name not in there]
    return counts, order + (k,), layout.into_public[k], fresh, []


def closing(layout, counts, order, k):
    """What closing door k, which is open, once changes in a base with these counts and this open order."""
    counts = with_count(counts, k, counts[k] - 1)
    if counts[k] > 0:
        return counts, order, [], [], []
    order = tuple([door for door in order if door != k])
    there = names_there(layout, order)
    return counts, order, [], [], [name for name in layout.rows[k] if name not in there]


def changed_base(base, change):
    """The base behind a change of it.

    A change is a tuple of the counts and the open order behind it, and of the names of those who become public as far
    as they are not yet, of those who become deep, and of those who go.
    """
    _, _, public, deep = base
    counts, order, shown, sunk, gone = change
    if shown:
        public += tuple([name for name in shown if name not in public])
    if sunk:
        deep = tuple(sorted([*deep, *sunk]))
    if gone:
        public = tuple([name for name in public if name not in gone])
        deep = tuple([name for name in deep if name not in gone])
    return counts, order, public, deep


def with_count(counts, k, count):
    """The counts with this one for door k."""
    return counts[:k] + (count,) + counts[k + 1:]


def names_there(layout, order):
    """A dict of True for the name of each LIB that is there with these doors open."""
    there = {name: True for name in layout.first}
    for k in order:
        for name in layout.rows[k]:
            there[name] = True
    return there


def looks_along(layout, base, name):
    """The names of the LIBs along which the LIB of this name, which is there, looks, each once."""
    _, order, public, deep = base
    if name in layout.first:
        return list(public)
    found = []
    if name not in deep:
        add_new(found, public)
    for k in order:
        if name in layout.rows[k]:
            add_new(found, layout.rows_seen[k])
    add_new(found, public)
    return found
