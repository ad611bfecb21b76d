"""Exact points, and the triples that stand for them: (x, y, w) for the point (x / w, y / w), with w above 0.

Three integers without a common divisor: so each exact point has one triple, and few products tell sides and crossings.
"""

from math import gcd, lcm

from trueatlas.checks import is_pair
from trueatlas.fractions import is_fraction, lowest

# The least number with too many digits.
TOO_LONG = 10 ** 40


def is_short(value):
    """Whether the value is a fraction whose numbers have at most 40 digits."""
    return is_fraction(value) and abs(value[0]) < TOO_LONG and value[1] < TOO_LONG


def is_exact_point(value):
    """Whether the value is an exact point whose numbers have at most 40 digits."""
    return is_pair(value) and is_short(value[0]) and is_short(value[1])


def triple_of(point):
    """The triple of an exact point."""
    (n, d), (m, e) = point
    whole = lcm(d, e)
    return (n * (whole // d), m * (whole // e), whole)


def exact_of(triple):
    """The exact point of a triple."""
    x, y, w = triple
    return (lowest(x, w), lowest(y, w))


def line_through(p, q):
    """The line through two points: the three factors with which a third point gives its side."""
    return (p[1] * q[2] - p[2] * q[1], p[2] * q[0] - p[0] * q[2], p[0] * q[1] - p[1] * q[0])


def side_of(line, p):
    """Greater than 0 if the point lies left of the line, less than 0 if right of it, and 0 if on it."""
    return line[0] * p[0] + line[1] * p[1] + line[2] * p[2]


def crossing_of(first, second):
    """The point that two lines have in common which are not parallel."""
    # Points and lines change places: what gives the line through two points gives the point on two lines.
    x, y, w = line_through(first, second)
    common = gcd(x, y, w)
    if w < 0:
        common = -common
    return (x // common, y // common, w // common)


def direction_of(p, q):
    """A vector of integers in the direction from p to q."""
    return (q[0] * p[2] - p[0] * q[2], q[1] * p[2] - p[1] * q[2])


def ascending(triples):
    """The points in ascending order, each once."""
    once = {p: True for p in triples}
    widest = max([p[2] for p in once], default=1)
    # Different numbers with such denominators differ by at least 1 / fine, so their multiples are different, too.
    fine = widest * widest
    return sorted(list(once), key=lambda p: (p[0] * fine // p[2], p[1] * fine // p[2]))


def is_between_ends(p, a, b):
    """Whether a point on the line through two others lies between them, these included."""
    back, on = direction_of(p, a), direction_of(p, b)
    return min(back, on) <= (0, 0) <= max(back, on)


def crosses_to_east(p, a, b):
    """Whether the way between a and b crosses the ray from p to the east, counted without its upper end."""
    a_above = a[1] * p[2] > p[1] * a[2]
    b_above = b[1] * p[2] > p[1] * b[2]
    if a_above == b_above:
        return False
    side = side_of(line_through(a, b), p)
    return side > 0 if b_above else side < 0
