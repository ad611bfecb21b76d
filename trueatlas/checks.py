"""What several modules ask of their arguments."""

from trueatlas.errors import BadValue


def is_whole(value):
    """Whether the value is an integer; True and False are none."""
    return isinstance(value, int) and not isinstance(value, bool)


def is_pair(value):
    """Whether the value is a tuple of two items."""
    return isinstance(value, tuple) and len(value) == 2


def need(holds, name):
    """Refuse the argument of this name unless what it needs holds."""
    if not holds:
        raise BadValue(name)
