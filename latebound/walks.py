"""Walks over all bases that runs lead to."""

from latebound.layout import Layout, among, changed_base, closing, first_base, looks_along, names_there, opening
from latebound.rows import add_new, gives, use_of
from latebound.searches import runs_from


def bases(program):
    """The pairs (base, run) of all bases with counts 0 and 1, each with the shortest RUN to it."""
    return walk(Layout(program))


def walk(layout):
    """The pairs (base, run) of all bases of this Layout with counts 0 and 1, the shortest runs first."""
    changes = {}

    def moves(base):
        counts, order, _, _ = base
        # the open order tells the counts, too, as long as these are 0 and 1
        if order not in changes:
            changes[order] = changes_from(layout, counts, order)
        return [(step, changed_base(base, change)) for step, change in changes[order]]

    return list(runs_from(first_base(layout), moves).items())


def changes_from(layout, counts, order):
    """The pairs (step, change) of all STEPs that close open doors and open shut ones, ascending, see changed_base."""
    doors = range(len(counts))
    closes = [(("close", k), closing(layout, counts, order, k)) for k in doors if counts[k] > 0]
    opens = [(("open", k), opening(layout, counts, order, k)) for k in doors if counts[k] == 0]
    return closes + opens


def sights(program, calls):
    """For each of the calls, pairs (name, i), a dict of its sights, each with the shortest RUN to it.

    A sight is a tuple of the names along which the LIB looks in some base, as far as they give something for this use.
    Raises NoLib(name), NoUse(i) for the first call that is wrong.
    """
    givers = {(name, i): givers_of(program, use_of(program, name, i)) for name, i in calls}
    views = {}
    for name, _ in calls:
        if name not in views:
            views[name] = views_of(program, name, joined([givers[call] for call in givers if call[0] == name]))
    found = {call: {} for call in givers}
    for call in givers:
        for view, run in views[call[0]].items():
            # the runs ascend, so the first one to a sight stays
            found[call].setdefault(tuple(among(view, givers[call])), run)
    return found


def views_of(program, name, givers):
    """A dict of all that the LIB of this name can look along of the givers, each with the shortest RUN to it."""
    views = {}
    # who else is deep does not matter, and leaving it out saves most of the bases
    layout = Layout(program, givers, [name])
    for base, run in walk(layout):
        if name in names_there(layout, base[1]):
            views.setdefault(tuple(looks_along(layout, base, name)), run)
    return views


def givers_of(program, use):
    """The names of the LIBs that give something for the use."""
    return [lib[0] for lib in program[0] if gives(program, lib[0], use) is not None]


def joined(lists):
    """All items of the lists, each once."""
    found = []
    for items in lists:
        add_new(found, items)
    return found
