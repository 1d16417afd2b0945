"""Tuples for lists: what is kept must not change when a caller changes a list."""


def frozen(value):
    """The value with a tuple for each list, at every depth."""
    if isinstance(value, (list, tuple)):
        return tuple([frozen(part) for part in value])
    return value
