"""Programs: which values are a LIB, a PROGRAM, a STEP or a RUN."""

LETTERS = "abcdefghijklmnopqrstuvwxyz"
LONGEST_NAME = 8
MODES = ("global", "local", "deep")
DOOR_WORDS = ("open", "close")


def is_lib(thing):
    """Whether thing is a LIB."""
    if not is_tuple_of(thing, 4):
        return False
    name, needs, defs, uses = thing
    if not is_name(name) or not are_names(needs) or name in needs:
        return False
    return are_defs(defs) and are_uses(uses)


def is_program(thing):
    """Whether thing is a PROGRAM."""
    if not is_tuple_of(thing, 3):
        return False
    libs, preload, doors = thing
    if not are_libs(libs):
        return False
    others = [lib[0] for lib in libs[1:]]
    return are_names(preload) and are_among(preload, others) and are_doors(doors, others)


def is_step(program, thing):
    """Whether thing is a STEP of this PROGRAM."""
    if is_tuple_of(thing, 2):
        word, number = thing
        return word in DOOR_WORDS and is_below(number, len(program[2]))
    if is_tuple_of(thing, 3):
        word, name, number = thing
        return word == "call" and is_below(number, many_uses(program, name))
    return False


def is_run(program, thing):
    """Whether thing is a RUN of this PROGRAM."""
    return isinstance(thing, tuple) and all([is_step(program, part) for part in thing])


def is_tuple_of(thing, many):
    """Whether thing is a tuple of just so many items."""
    return isinstance(thing, tuple) and len(thing) == many


def is_below(thing, limit):
    """Whether thing is an integer from 0, below the limit."""
    # a bool counts as an int for Python, but not here
    if isinstance(thing, bool) or not isinstance(thing, int):
        return False
    return 0 <= thing < limit


def is_name(thing):
    """Whether thing is a NAME."""
    if not isinstance(thing, str) or not 1 <= len(thing) <= LONGEST_NAME:
        return False
    return all([letter in LETTERS for letter in thing])


def is_version(thing):
    """Whether thing is a VERSION."""
    return thing == "" or is_name(thing)


def is_def(thing):
    """Whether thing is a pair (SYMBOL, VERSION)."""
    return is_tuple_of(thing, 2) and is_name(thing[0]) and is_version(thing[1])


def is_use(thing):
    """Whether thing is a triple (SYMBOL, VERSION, weak)."""
    # 1 == True and 0 == False, so weak is not compared by ==
    return is_tuple_of(thing, 3) and is_def(thing[:2]) and isinstance(thing[2], bool)


def is_door(thing, names):
    """Whether thing is a pair of one of the names and a mode."""
    return is_tuple_of(thing, 2) and thing[0] in names and thing[1] in MODES


def are_names(thing):
    """Whether thing is a tuple of different NAMEs."""
    # the items are tested first, as others than strings may be unfit for a set
    return isinstance(thing, tuple) and all([is_name(part) for part in thing]) and all_differ(thing)


def are_defs(thing):
    """Whether thing is an ascending tuple of definitions."""
    return isinstance(thing, tuple) and all([is_def(part) for part in thing]) and ascends(thing)


def are_uses(thing):
    """Whether thing is an ascending tuple of uses, each pair (SYMBOL, VERSION) once."""
    if not isinstance(thing, tuple) or not all([is_use(part) for part in thing]):
        return False
    # where each pair stands once, the triples ascend just if the pairs do
    return ascends([use[:2] for use in thing])


def are_libs(thing):
    """Whether thing is a tuple of one LIB or more, with different names, that need each other, but never main."""
    if not isinstance(thing, tuple) or len(thing) == 0 or not all([is_lib(part) for part in thing]):
        return False
    names = [lib[0] for lib in thing]
    return all_differ(names) and all([are_among(lib[1], names[1:]) for lib in thing])


def are_doors(thing, names):
    """Whether thing is a tuple of different doors to LIBs of these names."""
    return isinstance(thing, tuple) and all([is_door(part, names) for part in thing]) and all_differ(thing)


def are_among(parts, names):
    """Whether each of the parts is one of the names."""
    return all([part in names for part in parts])


def all_differ(parts):
    """Whether none of the parts stands there twice."""
    return len(set(parts)) == len(parts)


def ascends(parts):
    """Whether each of the parts is less than the next one."""
    return all([parts[at] < parts[at + 1] for at in range(len(parts) - 1)])


def many_uses(program, name):
    """How many uses the LIB of this name has; 0 if there is no such LIB."""
    for lib in program[0]:
        if lib[0] == name:
            return len(lib[3])
    return 0
