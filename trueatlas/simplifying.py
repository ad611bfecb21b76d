"""Simpler maps: points of arcs go, as long as what crosses, encloses and touches what stays."""

from trueatlas.arcs import are_tracks, arcs_and_ways, is_closed, is_track, line_along
from trueatlas.checks import is_between, is_pair, is_whole, need
from trueatlas.sides import are_points, edges_along, joining, turn_of

MOST_TOLD = 40
MOST_THRESHOLD = 10000000
LEAST_OF_CLOSED = 4


def worth_at(arc, place):
    """The worth of an inner point."""
    return abs(turn_of(arc[place - 1], arc[place], arc[place + 1]))


def inner_places(arc):
    """The indexes of the inner points of an arc."""
    return list(range(1, len(arc) - 1))


def is_in_triangle(p, corners):
    """Whether a point is in a triangle or on it; the triangle can be a segment."""
    a, b, c = corners
    turns = (turn_of(a, b, p), turn_of(b, c, p), turn_of(c, a, p))
    return min(turns) >= 0 or max(turns) <= 0


def points_within(points, corners):
    """Those of some points that are in a triangle or on it."""
    # On one line with the corners of a segment all turns are 0, so this box is what tells its points from others.
    left, right = min(p[0] for p in corners), max(p[0] for p in corners)
    low, high = min(p[1] for p in corners), max(p[1] for p in corners)
    near = [p for p in points if left <= p[0] <= right and low <= p[1] <= high]
    return [p for p in near if is_in_triangle(p, corners)]


def are_neighbours(arcs, p, q):
    """Whether two points are neighbours in one of the arcs."""
    return any(p in arc and q in arc and joining(p, q) in edges_along(arc) for arc in arcs)


def may_go(arcs, told, threshold, number, place):
    """Whether an inner point can go."""
    arc = arcs[number]
    corners = arc[place - 1:place + 2]
    a, b, c = corners
    if worth_at(arc, place) >= threshold or a == c:
        return False
    if is_closed(arc) and len(set(arc)) < LEAST_OF_CLOSED:
        return False
    if any(p not in corners for p in points_within(told, corners)):
        return False
    within = [p for row in arcs for p in points_within(row, corners)]
    if within.count(b) > 1 or any(p not in corners for p in within):
        return False
    return not are_neighbours(arcs, a, c)


def without_point(arcs, number, place):
    """The arcs after an inner point has gone."""
    arc = arcs[number]
    return [*arcs[:number], arc[:place] + arc[place + 1:], *arcs[number + 1:]]


def next_step(arcs, told, threshold):
    """The step at the inner point that goes next, or None."""
    found = []
    for number, arc in enumerate(arcs):
        found.extend([(worth_at(arc, place), number, place) for place in inner_places(arc)])
    for worth, number, place in sorted(found):
        if worth >= threshold:
            return None
        if may_go(arcs, told, threshold, number, place):
            return (number, place)
    return None


def arcs_and_steps(arcs, told, threshold):
    """The simplified arcs and the steps, for arguments that have been checked."""
    arcs = list(arcs)
    steps = []
    step = next_step(arcs, told, threshold)
    while step is not None:
        steps.append(step)
        arcs = without_point(arcs, step[0], step[1])
        step = next_step(arcs, told, threshold)
    return (arcs, steps)


def is_inner(arcs, number, place):
    """Whether an arc has this number and an inner point at this index."""
    return is_between(number, 0, len(arcs) - 1) and is_between(place, 1, len(arcs[number]) - 2)


def need_arcs(arcs, told, threshold):
    """Refuse the first of these arguments that is wrong."""
    need(are_tracks(arcs), "arcs")
    need_bounds(told, threshold)


def need_bounds(told, threshold):
    """Refuse the told points or the threshold if they are wrong."""
    need(are_points(told, 0, MOST_TOLD), "told")
    need(is_between(threshold, 0, MOST_THRESHOLD), "threshold")


def are_steps(value):
    """Whether the value is a list of pairs of integers."""
    if not isinstance(value, list):
        return False
    return all(is_pair(step) and is_whole(step[0]) and is_whole(step[1]) for step in value)


def worths(arc):
    """The worths of the inner points, in order."""
    need(is_track(arc), "arc")
    return [worth_at(arc, place) for place in inner_places(arc)]


def can_go(arcs, told, threshold, number, place):
    """Whether the point at this index of the arc with this number is an inner point that can go."""
    need_arcs(arcs, told, threshold)
    return is_inner(arcs, number, place) and may_go(arcs, told, threshold, number, place)


def simplified(arcs, told, threshold):
    """The simplified arcs and the steps that lead to them."""
    need_arcs(arcs, told, threshold)
    return arcs_and_steps(arcs, told, threshold)


def taken(arcs, told, threshold, steps):
    """The arcs after the steps, or None if one of the points cannot go when its step comes."""
    need_arcs(arcs, told, threshold)
    need(are_steps(steps), "steps")
    arcs = list(arcs)
    for number, place in steps:
        if not is_inner(arcs, number, place) or not may_go(arcs, told, threshold, number, place):
            return None
        arcs = without_point(arcs, number, place)
    return arcs


def simplified_lines(lines, told, threshold):
    """The lines that their ways join of the simplified arcs."""
    need(are_tracks(lines), "lines")
    need_bounds(told, threshold)
    arcs, ways = arcs_and_ways(lines)
    arcs, _ = arcs_and_steps(arcs, told, threshold)
    return [line_along(arcs, way) for way in ways]
