"""Rows of libraries, and the definitions that libraries give."""

from latebound.data import is_below
from latebound.errors import NoDoor, NoLib, NoUse

NOBODY = ("nobody",)
LOST = ("lost",)


def row(program, names):
    """The row of these names: themselves, then what they need, and what that needs, each once."""
    for name in names:
        lib_named(program, name)
    found = []
    add_new(found, names)
    at = 0
    while at < len(found):
        lib = lib_named(program, found[at])
        add_new(found, lib[1])
        at += 1
    return found


def first_row(program):
    """The row of main and of the names of preload."""
    libs, preload, _ = program
    main = libs[0][0]
    return row(program, [main, *preload])


def gives(program, name, use):
    """The VERSION that the LIB of this name gives for the use; None if no definition serves it."""
    versions = serving(program, name, use)
    return versions[0] if versions else None


def serving(program, name, use):
    """The VERSIONs of the LIB of this name that serve the use, each ahead of those that it is taken before."""
    symbol, wanted, _ = use
    defs = lib_named(program, name)[2]
    versions = [version for defined, version in defs if defined == symbol and serves(version, wanted)]
    return sorted(versions, key=lambda version: (version != wanted, version))


def answer_along(program, along, use):
    """What a call of this use is told by the first of these LIBs that gives something for it."""
    for name in along:
        version = gives(program, name, use)
        if version is not None:
            return ("bound", name, version)
    return unbound_answer(use)


def unbound_answer(use):
    """What a call of this use is told if none of the LIBs gives something for it."""
    return NOBODY if use[2] else LOST


def serves(version, wanted):
    """Whether a definition of this version serves a use of the wanted one, of the same symbol."""
    return version == wanted or version == "" or wanted == ""


def lib_named(program, name):
    """The LIB of this name; raises NoLib(name) if there is none."""
    for lib in program[0]:
        if lib[0] == name:
            return lib
    raise NoLib(name)


def use_of(program, name, i):
    """The use i of the LIB of this name; raises NoLib(name), NoUse(i)."""
    return use_in(lib_named(program, name), i)


def use_in(lib, i):
    """The use i of the LIB; raises NoUse(i)."""
    uses = lib[3]
    if not is_below(i, len(uses)):
        raise NoUse(i)
    return uses[i]


def all_calls(program):
    """The pairs (name, i) of all uses."""
    return [(lib[0], i) for lib in program[0] for i in range(len(lib[3]))]


def check_doors(program, numbers):
    """Raises NoDoor(number) for the first of the numbers that is that of no door."""
    for k in numbers:
        if not is_below(k, len(program[2])):
            raise NoDoor(k)


def add_new(found, names):
    """Puts the names behind those that were found, as far as they are not there yet."""
    for name in names:
        if name not in found:
            found.append(name)
