"""How two segments meet."""

from trueatlas.checks import need
from trueatlas.fractions import lowest
from trueatlas.sides import is_on, is_segment, turn_of


def are_apart(first, second):
    """Whether the boxes around two segments have no common point."""
    (a, b), (c, d) = first, second
    if b[0] < c[0] or d[0] < a[0]:
        return True
    return max(a[1], b[1]) < min(c[1], d[1]) or max(c[1], d[1]) < min(a[1], b[1])


def meeting_on_line(first, second):
    """How two segments on one line meet."""
    low = max(first[0], second[0])
    high = min(first[1], second[1])
    if low > high:
        return ("none",)
    if low == high:
        return ("touch", low)
    return ("overlap", low, high)


def common_end(first, second):
    """The first end of one of the segments that lies on the other one, or None."""
    for p in first:
        if is_on(p, second):
            return p
    for p in second:
        if is_on(p, first):
            return p
    return None


def cut_point(first, before, after):
    """The exact point of the first segment, for the turns of its ends seen from the other segment."""
    a, b = first
    whole = before - after
    return (lowest(a[0] * whole + before * (b[0] - a[0]), whole),
            lowest(a[1] * whole + before * (b[1] - a[1]), whole))


def meeting_of(first, second):
    """How two segments meet that have been checked."""
    if are_apart(first, second):
        return ("none",)
    (a, b), (c, d) = first, second
    before, after = turn_of(c, d, a), turn_of(c, d, b)
    if before == 0 and after == 0:
        return meeting_on_line(first, second)
    p = common_end(first, second)
    if p is not None:
        return ("touch", p)
    if before * after < 0 and turn_of(a, b, c) * turn_of(a, b, d) < 0:
        x, y = cut_point(first, before, after)
        return ("cross", x, y)
    return ("none",)


def meeting(first, second):
    """How two segments meet, a tuple that begins with "none", "overlap", "touch" or "cross"."""
    need(is_segment(first), "first")
    need(is_segment(second), "second")
    return meeting_of(first, second)
