"""Preloads with which calls have the wanted answers, whatever the program does."""

from itertools import permutations

from latebound.binds import bindings
from latebound.data import are_among, are_names
from latebound.layout import Layout
from latebound.lenses import Lens, answers_given, answers_near, first_in
from latebound.rows import row, unbound_answer, use_of
from latebound.searches import fewest
from latebound.torn import answers_seen
from latebound.tuples import frozen


def with_preload(program, preload):
    """The PROGRAM with this preload instead of its own one."""
    libs, _, doors = frozen(program)
    return libs, frozen(preload), doors


def gives_all(program, wanted):
    """Whether the PROGRAM gives all WANTs."""
    return breach(program, wanted) is None


def breach(program, wanted):
    """The first WANT that the PROGRAM does not give, by its index, and the shortest RUN to another answer, or None."""
    wants = frozen(wanted)
    for name, i, _ in wants:
        use_of(program, name, i)
    for at, (name, i, answer) in enumerate(wants):
        ways = [way for told, way in bindings(program, name, i) if told != answer]
        if ways:
            return at, min(ways, key=lambda way: (len(way), way))
    return None


def shows_preload(program, wanted, thing):
    """Whether thing is a preload with which the PROGRAM gives all WANTs."""
    wants = wants_of(program, wanted)
    if not are_names(thing) or not are_among(thing, other_names(program)):
        return False
    return are_given(program, wants, thing)


def least_preload(program, wanted):
    """The least preload of as few names as can be with which the PROGRAM gives all WANTs; None if there is none."""
    wants = wants_of(program, wanted)
    for many in range(len(program[0])):
        for preload in preloads(program, many):
            if are_given(program, wants, preload):
                return preload
    return None


def many_preloads(program, wanted, many):
    """How many preloads of just so many names there are with which the PROGRAM gives all WANTs."""
    wants = wants_of(program, wanted)
    return len([preload for preload in preloads(program, many) if are_given(program, wants, preload)])


def is_lean(program, wanted, preload):
    """Whether this preload gives all WANTs, and none does from which one of its names is left out."""
    wants = wants_of(program, wanted)
    names = tuple(preload)
    fewer = [names[:at] + names[at + 1:] for at in range(len(names))]
    return are_given(program, wants, names) and not any([are_given(program, wants, less) for less in fewer])


def clash(program, wanted):
    """The indices of the fewest WANTs that no preload gives together, the least of them; None if one gives all."""
    wants = wants_of(program, wanted)
    found = {}
    for many in range(len(program[0])):
        for preload in preloads(program, many):
            found[tuple([want.is_given(program, preload) for want in wants])] = True
    return fewest(len(wants), lambda chosen: not any([all([told[at] for at in chosen]) for told in found]))


class Want:
    """A WANT of a PROGRAM, to be tried with its preloads; raises NoLib(name), NoUse(number)."""

    def __init__(self, program, want):
        self.name, self.i, self.wanted = want
        use = use_of(program, self.name, self.i)
        self.unbound = unbound_answer(use)
        self.given = answers_given(program, use)
        layout = Layout(with_preload(program, ()))
        self.near = answers_near(layout, self.name, self.given)
        self.modes = {k: mode for k, (_, mode) in enumerate(program[2]) if self.name in layout.rows[k]}
        # whether some door makes one public that gives something
        self.comes = any([first_in(self.given, names) is not None for names in layout.into_public])
        self.walked = {}

    def is_given(self, program, preload):
        """Whether the PROGRAM with this preload gives the WANT."""
        first = row(program, [program[0][0][0], *preload])
        # who is in the first row stands ahead of all others in public
        told = first_in(self.given, first)
        if self.name in first:
            return self.is_given_inside(told)
        if told is not None:
            return all([answer == self.wanted for answer in self.answers_outside(told)])
        # the order of the first row does not matter, as it gives nothing
        key = tuple(sorted(first))
        if key not in self.walked:
            seen = answers_seen(Lens(with_preload(program, preload), self.name, self.i))
            self.walked[key] = all([answer == self.wanted for answer, _ in seen])
        return self.walked[key]

    def is_given_inside(self, told):
        """The same if the LIB is in the first row, where it finds this answer; None if it finds nobody there."""
        if told is not None:
            return told == self.wanted
        # at the beginning nobody is found, then whoever comes to be public
        return self.wanted == self.unbound and not self.comes

    def answers_outside(self, told):
        """All answers if the LIB is not in the first row, where it finds this answer."""
        modes = list(self.modes.values())
        found = [told for mode in modes if mode != "deep"]
        if "deep" in modes:
            # once it is deep, any of its doors can be opened, and the one by which it came closed
            found += [self.near.get(k, told) for k in self.modes]
        return found


def wants_of(program, wanted):
    """The Wants of these WANTs; raises NoLib(name), NoUse(number) for the first one that is wrong."""
    return [Want(program, want) for want in frozen(wanted)]


def are_given(program, wants, preload):
    """Whether the PROGRAM with this preload gives all these Wants."""
    for want in wants:
        if not want.is_given(program, preload):
            return False
    return True


def other_names(program):
    """The names of the LIBs other than main, ascending."""
    return sorted([lib[0] for lib in program[0][1:]])


def preloads(program, many):
    """All preloads with just so many names, ascending."""
    names = other_names(program)
    return list(permutations(names, int(many))) if many <= len(names) else []
