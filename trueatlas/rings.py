"""Rings: closed rows of points that go around an area, and hulls."""

from trueatlas.checks import need
from trueatlas.crossings import meeting_of
from trueatlas.sides import are_points, crosses_east, edges_along, is_on, is_point, turn_of

LEAST_OF_RING = 3
MOST_OF_RING = 40
MOST_OF_HULL = 60


def ways_around(points):
    """The pairs of each point and the next one, the last and the first point being such a pair, too."""
    return list(zip(points, points[1:] + points[:1]))


def area_around(points):
    """The size of a row of points that have been checked."""
    return sum(p[0] * q[1] - p[1] * q[0] for p, q in ways_around(points))


def do_follow(i, j, many):
    """Whether the edges i < j follow each other, of as many edges of a closed row."""
    return j == i + 1 or (i == 0 and j == many - 1)


def is_simple(points):
    """Whether 3 or more points go around simply: edges have only the common ends of followers in common."""
    if any(p == q for p, q in ways_around(points)):
        return False
    edges = edges_along(points + points[:1])
    many = len(edges)
    for j in range(many):
        for i in range(j):
            wanted = "touch" if do_follow(i, j, many) else "none"
            if meeting_of(edges[i], edges[j])[0] != wanted:
                return False
    return True


def goes_around(value):
    """Whether the value is a tuple of 3 to 40 points that goes around simply."""
    return are_points(value, LEAST_OF_RING, MOST_OF_RING) and is_simple(value)


def is_ring(value):
    """Whether the value is a ring."""
    return goes_around(value) and area_around(value) > 0 and value[0] == min(value)


def ring_of(points):
    """The ring that points are made that go around simply."""
    need(goes_around(points), "points")
    if area_around(points) < 0:
        points = points[::-1]
    start = points.index(min(points))
    return points[start:] + points[:start]


def size_of(points):
    """Twice the area that the points go around, counter-clockwise counted as positive."""
    need(are_points(points, LEAST_OF_RING, MOST_OF_RING), "points")
    return area_around(points)


def place_in(p, ring):
    """Where the point lies: "on", "in" or "out"."""
    need(is_point(p), "p")
    need(is_ring(ring), "ring")
    if any(is_on(p, edge) for edge in edges_along(ring + ring[:1])):
        return "on"
    crossed = sum(1 for a, b in ways_around(ring) if crosses_east(p, a, b))
    return "in" if crossed & 1 else "out"


def left_turns(points):
    """The first point, the last one and those between them at which the hull on the right of the way turns."""
    row = []
    for p in points:
        while len(row) >= 2 and turn_of(row[-2], row[-1], p) <= 0:
            row.pop()
        row.append(p)
    return row


def hull_of(points):
    """The corners of the least convex set that contains the points, counter-clockwise from the least one."""
    need(are_points(points, 1, MOST_OF_HULL), "points")
    places = sorted(set(points))
    if len(places) == 1:
        return (places[0],)
    below = left_turns(places)
    above = left_turns(places[::-1])
    return tuple(below[:-1] + above[:-1])


def are_corners(points, value):
    """Whether the value is a tuple of different points among these, the least of them first."""
    if not isinstance(value, tuple) or not 1 <= len(value) <= len(points):
        return False
    if not all(is_point(corner) and corner in points for corner in value):
        return False
    return len(set(value)) == len(value) and value[0] == min(value)


def turns_left(corners):
    """Whether three or more corners turn left everywhere, also seen from the first one."""
    around = corners + corners[:2]
    if not all(turn_of(a, b, c) > 0 for a, b, c in zip(around, around[1:], around[2:])):
        return False
    return all(turn_of(corners[0], b, c) > 0 for b, c in zip(corners[1:], corners[2:]))


def is_hull(points, value):
    """Whether the value is the hull of the points, judged without looking for the hull."""
    need(are_points(points, 1, MOST_OF_HULL), "points")
    if not are_corners(points, value):
        return False
    if len(value) == 1:
        return all(p == value[0] for p in points)
    if len(value) == 2:
        return all(is_on(p, value) for p in points)
    if not turns_left(value):
        return False
    return all(turn_of(a, b, p) >= 0 for a, b in ways_around(value) for p in points)
