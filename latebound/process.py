"""A program that runs, step by step."""

from latebound.data import is_below
from latebound.errors import NoDoor, NotThere
from latebound.layout import Layout, closed_base, first_base, looks_along, names_there, opened_base
from latebound.rows import LOST, answer_along, lib_named, use_in
from latebound.tuples import frozen

MOST_OPEN = 2
TORN = ("torn",)


class Process:
    """A PROGRAM that runs: which doors are open, and to what the calls are bound."""

    def __init__(self, program):
        self._program = frozen(program)
        self._layout = Layout(self._program)
        self._base = first_base(self._layout)
        self._slots = {}

    def open_door(self, k):
        """Opens door k once more; raises NoDoor(k)."""
        if self._count(k) == MOST_OPEN:
            return ("full",)
        self._base = opened_base(self._layout, self._base, k)
        return ("opened",)

    def close_door(self, k):
        """Closes door k once; raises NoDoor(k)."""
        if self._count(k) == 0:
            return ("shut",)
        self._base = closed_base(self._layout, self._base, k)
        self._slots = slots_left(self._slots, names_there(self._layout, self._base[1]))
        return ("closed",)

    def call(self, name, i):
        """What the LIB of this name is told when it calls its use i; raises NoLib, NotThere, NoUse."""
        kept = self.slot(name, i)
        if kept is not None:
            return kept
        use = use_in(self._lib_there(name), i)
        answer = answer_along(self._program, self.looks(name), use)
        # a lost call looks again the next time
        if answer != LOST:
            self._slots[(name, i)] = answer
        return answer

    def do(self, step):
        """Does what the STEP names, and gives its answer; raises as open_door, close_door and call."""
        if step[0] == "open":
            return self.open_door(step[1])
        if step[0] == "close":
            return self.close_door(step[1])
        _, name, i = step
        return self.call(name, i)

    def counts(self):
        """How often each door is open."""
        return list(self._base[0])

    def opened(self):
        """The open doors, in the order in which they came from count 0."""
        return list(self._base[1])

    def there(self):
        """The names of the LIBs that are there, ascending."""
        return sorted(names_there(self._layout, self._base[1]))

    def public(self):
        """The names of the public LIBs, in their order."""
        return list(self._base[2])

    def deep(self):
        """The names of the deep LIBs, ascending."""
        return list(self._base[3])

    def looks(self, name):
        """The names of the LIBs along which the LIB of this name looks; raises NoLib, NotThere."""
        self._lib_there(name)
        return looks_along(self._layout, self._base, name)

    def slot(self, name, i):
        """The answer that this slot keeps, None if it is unbound; raises NoLib, NotThere, NoUse."""
        use_in(self._lib_there(name), i)
        return self._slots.get((name, i))

    def base(self):
        """The tuple of counts, open order, public and deep."""
        return self._base

    def stand(self):
        """The base, and the triples (name, i, answer) of all slots that are not unbound."""
        return self._base, tuple(sorted([(name, i, answer) for (name, i), answer in self._slots.items()]))

    def twin(self):
        """A Process in the same stand that shares nothing with this one."""
        other = Process(self._program)
        other._base = self._base
        other._slots = {key: self._slots[key] for key in self._slots}
        return other

    def __eq__(self, other):
        if not isinstance(other, Process):
            return False
        return self._program == other._program and self.stand() == other.stand()

    def __len__(self):
        return len(self.there())

    def __repr__(self):
        return f"Process({len(self._base[1])} doors open, {len(self)} libraries)"

    def _count(self, k):
        """How often door k is open; raises NoDoor(k)."""
        counts = self._base[0]
        if not is_below(k, len(counts)):
            raise NoDoor(k)
        return counts[k]

    def _lib_there(self, name):
        """The LIB of this name; raises NoLib(name), NotThere(name)."""
        lib = lib_named(self._program, name)
        if name not in names_there(self._layout, self._base[1]):
            raise NotThere(name)
        return lib


def slots_left(slots, there):
    """What is left of the slots when only these LIBs are there."""
    return {key: answer_left(slots[key], there) for key in slots if key[0] in there}


def answer_left(answer, there):
    """What is left of a slot's answer when only these LIBs are there."""
    if answer[0] == "bound" and answer[1] not in there:
        return TORN
    return answer
