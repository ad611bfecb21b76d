"""Points, segments and lines: on which side, on which edge, how far."""

from trueatlas.checks import is_pair, is_whole, need
from trueatlas.fractions import less, lowest

LOWEST = -1000
HIGHEST = 1000
MOST_OF_LINE = 40


def is_coordinate(value):
    """Whether the value is an integer that a point of the map can have."""
    return is_whole(value) and LOWEST <= value <= HIGHEST


def is_point(value):
    """Whether the value is a point."""
    return is_pair(value) and is_coordinate(value[0]) and is_coordinate(value[1])


def is_segment(value):
    """Whether the value is a segment: two points, the lesser one first."""
    return is_pair(value) and is_point(value[0]) and is_point(value[1]) and value[0] < value[1]


def are_points(value, least, most):
    """Whether the value is a tuple of points, of as many as these bounds allow."""
    return isinstance(value, tuple) and least <= len(value) <= most and all(is_point(p) for p in value)


def is_line(value):
    """Whether the value is a line."""
    return are_points(value, 2, MOST_OF_LINE) and all(p != q for p, q in zip(value, value[1:]))


def joining(p, q):
    """The segment between two different points."""
    return (p, q) if p < q else (q, p)


def edges_along(points):
    """The segments between neighbours in a row of points."""
    return [joining(p, q) for p, q in zip(points, points[1:])]


def turn_of(a, b, c):
    """The turn of three points that have been checked."""
    return (b[0] - a[0]) * (c[1] - a[1]) - (b[1] - a[1]) * (c[0] - a[0])


def is_on(p, segment):
    """Whether a point lies on a segment, both of which have been checked."""
    a, b = segment
    # From the lesser end to the greater one the points grow, so their order alone tells what is between.
    return turn_of(a, b, p) == 0 and a <= p <= b


def crosses_east(p, a, b):
    """Whether the way between a and b crosses the ray from p to the east, counted without its upper end."""
    low, high = (a, b) if a[1] < b[1] else (b, a)
    return low[1] <= p[1] < high[1] and turn_of(low, high, p) > 0


def foot_on(p, segment):
    """The foot of a point on a segment, both of which have been checked."""
    a, b = segment
    wide, high = b[0] - a[0], b[1] - a[1]
    whole = wide * wide + high * high
    along = (p[0] - a[0]) * wide + (p[1] - a[1]) * high
    return lowest(min(max(along, 0), whole), whole)


def gap_to(p, segment):
    """The gap of a point and a segment, both of which have been checked."""
    a, b = segment
    n, d = foot_on(p, segment)
    x = d * (p[0] - a[0]) - n * (b[0] - a[0])
    y = d * (p[1] - a[1]) - n * (b[1] - a[1])
    return lowest(x * x + y * y, d * d)


def turn(a, b, c):
    """The turn of three points: greater than 0 if c lies to the left of the way from a to b."""
    need(is_point(a), "a")
    need(is_point(b), "b")
    need(is_point(c), "c")
    return turn_of(a, b, c)


def lies_on(p, segment):
    """Whether the point lies on the segment."""
    need(is_point(p), "p")
    need(is_segment(segment), "segment")
    return is_on(p, segment)


def foot_of(p, segment):
    """How far along the segment, a fraction from 0 to 1, the point nearest to p lies."""
    need(is_point(p), "p")
    need(is_segment(segment), "segment")
    return foot_on(p, segment)


def gap_of(p, segment):
    """The square of the distance between the point and the segment, a fraction."""
    need(is_point(p), "p")
    need(is_segment(segment), "segment")
    return gap_to(p, segment)


def nearest_edge(p, line):
    """The index of the first edge of the line with the least gap, and this gap."""
    need(is_point(p), "p")
    need(is_line(line), "line")
    gaps = [gap_to(p, edge) for edge in edges_along(line)]
    best = 0
    for index, gap in enumerate(gaps):
        if less(gap, gaps[best]):
            best = index
    return (best, gaps[best])
