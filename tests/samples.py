"""Programs that several tests use, and ways to change parts of them."""

MAIN = ("main", (), (), (("log", "", False), ("plug", "", True)))
ONE = ("one", ("base",), (("log", "a"),), (("log", "", False),))
TWO = ("two", ("base",), (("log", "b"), ("plug", "")), (("log", "a", False),))
BASE = ("base", (), (("log", ""),), ())
DOORS = (("one", "global"), ("two", "local"), ("one", "deep"))
# the example of section 3 of the document
PROGRAM = ((MAIN, ONE, TWO, BASE), (), DOORS)


def lib(name, needs=(), defs=(), uses=()):
    return (name, needs, defs, uses)


def listed(value):
    """The value with a list for each tuple, at every depth."""
    if isinstance(value, (list, tuple)):
        return [listed(part) for part in value]
    return value


def nested(value, levels):
    """The value inside so many tuples and lists, by turns."""
    for level in range(levels):
        value = (value,) if level % 2 else [value]
    return value


def places(value, path=()):
    """The paths to the value and to all that is in it."""
    found = [path]
    if isinstance(value, tuple):
        for at, part in enumerate(value):
            found += places(part, path + (at,))
    return found


def part_at(value, path):
    for at in path:
        value = value[at]
    return value


def replaced(value, path, part):
    """The value with this part at the end of the path."""
    if not path:
        return part
    at = path[0]
    return value[:at] + (replaced(value[at], path[1:], part),) + value[at + 1:]
