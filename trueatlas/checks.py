"""What several modules ask of their arguments."""

from trueatlas.errors import BadValue

MOST_OF_NAME = 12
LETTERS = "abcdefghijklmnopqrstuvwxyz"
DIGITS = "0123456789"


def is_whole(value):
    """Whether the value is an integer; True and False are none."""
    return isinstance(value, int) and not isinstance(value, bool)


def is_pair(value):
    """Whether the value is a tuple of two items."""
    return isinstance(value, tuple) and len(value) == 2


def is_between(value, least, most):
    """Whether the value is an integer from the one bound to the other one."""
    return is_whole(value) and least <= value <= most


def ascends(row):
    """Whether each item of a row is less than the next one."""
    return all(first < second for first, second in zip(row, row[1:]))


def is_name(value):
    """Whether the value is a name: 1 to 12 lowercase letters and digits, of which the first one is a letter."""
    if not isinstance(value, str) or not 1 <= len(value) <= MOST_OF_NAME:
        return False
    return value[0] in LETTERS and all(one in LETTERS or one in DIGITS for one in value)


def need(holds, name):
    """Refuse the argument of this name unless what it needs holds."""
    if not holds:
        raise BadValue(name)
