"""Forms that are asked of values which may be anything."""


def is_listed(value):
    """Return whether a value is a list, or a tuple that may stand for one."""
    return isinstance(value, (list, tuple))


def is_pair(value):
    """Return whether a value is a tuple with two members."""
    return isinstance(value, tuple) and len(value) == 2
