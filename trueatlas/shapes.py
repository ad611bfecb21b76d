"""Shapes, things and maps: where a shape lies, what it meets and how far it is."""

from trueatlas.checks import ascends, is_name, is_pair, need
from trueatlas.crossings import are_apart, meeting_of
from trueatlas.fractions import less
from trueatlas.rings import is_ring
from trueatlas.sides import (crosses_east, edges_along, gap_to, is_coordinate, is_line, is_on, is_point, turn_of)

MOST_RINGS = 6
MOST_THINGS = 60


def are_rings(value):
    """Whether the value is a tuple of 1 to 6 rings."""
    return isinstance(value, tuple) and 1 <= len(value) <= MOST_RINGS and all(is_ring(ring) for ring in value)


def is_shape(value):
    """Whether the value is a shape: of a point, a line or an area."""
    if not is_pair(value) or not isinstance(value[0], str):
        return False
    word, what = value
    if word == "point":
        return is_point(what)
    if word == "line":
        return is_line(what)
    return word == "area" and are_rings(what)


def is_thing(value):
    """Whether the value is a thing: a tuple of its name, its kind and its shape."""
    if not isinstance(value, tuple) or len(value) != 3:
        return False
    return is_name(value[0]) and is_name(value[1]) and is_shape(value[2])


def is_map(value):
    """Whether the value is a map: a tuple of at most 60 things in ascending order of their different names."""
    if not isinstance(value, tuple) or len(value) > MOST_THINGS or not all(is_thing(thing) for thing in value):
        return False
    return ascends([name for name, kind, shape in value])


def is_box(value):
    """Whether the value is a box; it can be without width or height."""
    if not isinstance(value, tuple) or len(value) != 4 or not all(is_coordinate(number) for number in value):
        return False
    return value[0] <= value[2] and value[1] <= value[3]


def rows_of(shape):
    """The rows of points of a shape, in each of which edges lead from one to the next."""
    word, what = shape
    if word == "point":
        return [(what,)]
    if word == "line":
        return [what]
    return [ring + ring[:1] for ring in what]


def edges_of(shape):
    """The edges of a shape, segments; a point has none."""
    return [edge for row in rows_of(shape) for edge in edges_along(row)]


def box_around(shape):
    """The box of a shape that has been checked."""
    points = [p for row in rows_of(shape) for p in row]
    return (min(x for x, y in points), min(y for x, y in points),
            max(x for x, y in points), max(y for x, y in points))


def has_place(shape, p):
    """Whether a point is a point of a shape, both of which have been checked."""
    word, what = shape
    if word == "point":
        return p == what
    edges = edges_of(shape)
    if any(is_on(p, edge) for edge in edges):
        return True
    return word == "area" and sum(1 for a, b in edges if crosses_east(p, a, b)) & 1 == 1


def edge_meets_box(edge, box):
    """Whether a segment and a box have a common point."""
    a, b = edge
    x0, y0, x1, y1 = box
    if are_apart(edge, ((x0, y0), (x1, y1))):
        return False
    turns = [turn_of(a, b, p) for p in ((x0, y0), (x1, y0), (x0, y1), (x1, y1))]
    return min(turns) <= 0 <= max(turns)


def is_place_in(p, box):
    """Whether a point is a point of a box."""
    return box[0] <= p[0] <= box[2] and box[1] <= p[1] <= box[3]


def starts_in(shape, other):
    """Whether one of the rows of a shape begins at a point of the other shape."""
    return any(has_place(other, row[0]) for row in rows_of(shape))


def is_inside(shape, box):
    """Whether all points of a shape are points of a box, both of which have been checked."""
    x0, y0, x1, y1 = box_around(shape)
    return is_place_in((x0, y0), box) and is_place_in((x1, y1), box)


def reaches_box(shape, box):
    """Whether a shape and a box have a common point, both of which have been checked."""
    if any(edge_meets_box(edge, box) for edge in edges_of(shape)):
        return True
    # No edge comes into the box, so all of it is in the shape or nothing; only a point can still be in it.
    return has_place(shape, (box[0], box[1])) or any(is_place_in(row[0], box) for row in rows_of(shape))


def reaches_shape(first, second):
    """Whether two shapes have a common point, both of which have been checked."""
    others = edges_of(second)
    if any(meeting_of(edge, other) != ("none",) for edge in edges_of(first) for other in others):
        return True
    # No edges meet, so all of a row lies in the other shape or nothing of it.
    return starts_in(first, second) or starts_in(second, first)


def square_to(shape, p):
    """The square of the distance between a shape and a point, both of which have been checked."""
    if has_place(shape, p):
        return (0, 1)
    if shape[0] == "point":
        wide, high = p[0] - shape[1][0], p[1] - shape[1][1]
        return (wide * wide + high * high, 1)
    edges = edges_of(shape)
    best = gap_to(p, edges[0])
    for edge in edges:
        gap = gap_to(p, edge)
        if less(gap, best):
            best = gap
    return best


def box_of(shape):
    """The least box that contains the shape."""
    need(is_shape(shape), "shape")
    return box_around(shape)


def has_point(shape, point):
    """Whether the point is a point of the shape."""
    need(is_shape(shape), "shape")
    need(is_point(point), "point")
    return has_place(shape, point)


def lies_in(shape, box):
    """Whether all points of the shape are points of the box."""
    need(is_shape(shape), "shape")
    need(is_box(box), "box")
    return is_inside(shape, box)


def meets_box(shape, box):
    """Whether the shape and the box have a common point."""
    need(is_shape(shape), "shape")
    need(is_box(box), "box")
    return reaches_box(shape, box)


def meet(first, second):
    """Whether the two shapes have a common point."""
    need(is_shape(first), "first")
    need(is_shape(second), "second")
    return reaches_shape(first, second)


def square_distance(shape, point):
    """The square of the distance between the shape and the point, a fraction."""
    need(is_shape(shape), "shape")
    need(is_point(point), "point")
    return square_to(shape, point)
