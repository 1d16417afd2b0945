"""Rows of libraries, and the definitions that a library gives."""

from latebound.errors import NoLib


def row(program, names):
    """The row of these names: themselves, then what they need, and what that needs, each once."""
    for name in names:
        lib_named(program, name)
    found = []
    add_new(found, names)
    at = 0
    while at < len(found):
        lib = lib_named(program, found[at])
        add_new(found, lib[1])
        at += 1
    return found


def first_row(program):
    """The row of main and of the names of preload."""
    libs, preload, _ = program
    main = libs[0][0]
    return row(program, [main, *preload])


def gives(program, name, use):
    """The VERSION that the LIB of this name gives for the use; None if no definition serves it."""
    symbol, wanted, _ = use
    defs = lib_named(program, name)[2]
    versions = [version for defined, version in defs if defined == symbol and serves(version, wanted)]
    if wanted in versions:
        return wanted
    return min(versions, default=None)


def serves(version, wanted):
    """Whether a definition of this version serves a use of the wanted one, of the same symbol."""
    return version == wanted or version == "" or wanted == ""


def lib_named(program, name):
    """The LIB of this name; raises NoLib(name) if there is none."""
    for lib in program[0]:
        if lib[0] == name:
            return lib
    raise NoLib(name)


def add_new(found, names):
    """Puts the names behind those that were found, as far as they are not there yet."""
    for name in names:
        if name not in found:
            found.append(name)
