"""Sessions: a program that is changed while it runs, and steps and changes that are taken back."""

from latebound.data import is_lib, is_program
from latebound.errors import NoProgram, NothingDone
from latebound.lenses import Lens
from latebound.nodes import moves_of, node_of, reply
from latebound.process import Process
from latebound.rows import check_doors, lib_named
from latebound.runs import AWAY
from latebound.searches import runs_from
from latebound.tuples import frozen


class Session:
    """A PROGRAM with one Process."""

    def __init__(self, program):
        self._program = frozen(program)
        self._process = Process(self._program)
        # the programs and Processes ahead of what was done; none of them is changed any more
        self._past = []

    def do(self, step):
        """Does the STEP, and gives its answer; raises as the Process does."""
        process = self._process.twin()
        answer = process.do(frozen(step))
        self._go_on(self._program, process)
        return answer

    def put(self, lib):
        """Puts the LIB in the place of the one with its name, or behind the others; raises NoProgram()."""
        new = frozen(lib)
        if not is_lib(new):
            raise NoProgram()
        libs, preload, doors = self._program
        names = [other[0] for other in libs]
        at = names.index(new[0]) if new[0] in names else len(names)
        self._change((libs[:at] + (new,) + libs[at + 1:], preload, doors))

    def take(self, name):
        """Takes the LIB of this name away; raises NoLib(name), NoProgram()."""
        gone = lib_named(self._program, name)
        libs, preload, doors = self._program
        self._change((tuple([lib for lib in libs if lib != gone]), preload, doors))

    def preload(self, names):
        """Puts these names in the place of the preload; raises NoProgram()."""
        libs, _, doors = self._program
        self._change((libs, frozen(names), doors))

    def add_door(self, name, mode):
        """Puts a door behind the others; raises NoProgram()."""
        libs, preload, doors = self._program
        self._change((libs, preload, doors + ((name, mode),)))

    def take_door(self, k):
        """Takes door k away, so that later ones move up; raises NoDoor(k), NoProgram()."""
        check_doors(self._program, [k])
        libs, preload, doors = self._program
        self._change((libs, preload, doors[:k] + doors[k + 1:]))

    def undo(self):
        """Takes back what was done last; raises NothingDone()."""
        if not self._past:
            raise NothingDone()
        self._program, self._process = self._past.pop()

    def program(self):
        """The PROGRAM."""
        return self._program

    def stand(self):
        """The stand of the Process."""
        return self._process.stand()

    def many(self):
        """How many undos are possible."""
        return len(self._past)

    def may(self, name, i):
        """All answers that the next call of this can tell behind further STEPs, ascending; raises NoLib, NoUse."""
        lens = Lens(self._program, name, i)
        nodes = runs_from(node_of(lens, self._process), lambda node: moves_of(lens, node))
        found = {reply(lens, node): True for node in nodes}
        return sorted([answer for answer in found if answer != AWAY])

    def twin(self):
        """A Session in the same state, with the same undos, that shares nothing with this one."""
        other = Session(self._program)
        other._process = self._process
        other._past = list(self._past)
        return other

    def _change(self, program):
        """Goes on with this program and a new Process; raises NoProgram()."""
        if not is_program(program):
            raise NoProgram()
        self._go_on(program, Process(program))

    def _go_on(self, program, process):
        """Keeps what was ahead, and goes on with these."""
        self._past.append((self._program, self._process))
        self._program, self._process = program, process
