"""The errors of the package; each keeps its values in attributes of their names."""

from latebound.tuples import frozen


class Ring(ValueError):
    """Doors of which each must be closed ahead of the next, and the last ahead of the first."""

    def __init__(self, doors):
        self.doors = frozen(doors)


class BadText(ValueError):
    """A line of a text that is not so written, or stands where it must not."""

    def __init__(self, line):
        self.line = line


class BadLine(ValueError):
    """A line at the desk that is not so written."""

    def __init__(self, number):
        self.number = number


class NoProgram(ValueError):
    """What was told is no PROGRAM."""


class NoDoor(LookupError):
    """A number that is that of no door."""

    def __init__(self, number):
        self.number = number


class NoLib(LookupError):
    """A name that is that of no LIB."""

    def __init__(self, name):
        self.name = name


class NoUse(LookupError):
    """A number that is that of no use of the LIB."""

    def __init__(self, number):
        self.number = number


class NotThere(RuntimeError):
    """A library that is not there."""

    def __init__(self, name):
        self.name = name


class NotOpen(RuntimeError):
    """A door that is not open."""

    def __init__(self, number):
        self.number = number


class NothingDone(RuntimeError):
    """There is nothing to take back."""
