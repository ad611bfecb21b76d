"""Asking a map: what is at a point, in a box, at a shape or near a point."""

from math import lcm

from trueatlas.checks import is_between, is_name, need
from trueatlas.shapes import (MOST_THINGS, has_place, is_box, is_inside, is_map, is_shape, reaches_box, reaches_shape,
                              square_to)
from trueatlas.sides import is_point


def is_word(value):
    """Whether the value is a word with which a box is asked."""
    return isinstance(value, str) and value in ("in", "meets")


def does_answer(shape, box, word):
    """Whether a shape lies in a box or meets it, as the word asks."""
    return is_inside(shape, box) if word == "in" else reaches_box(shape, box)


def in_order(rows):
    """Pairs of a name and a fraction in the order of the fractions, equal ones in the order of the names."""
    whole = 1
    for name, square in rows:
        whole = lcm(whole, square[1])
    # With a common denominator whole numbers tell the order of the fractions.
    found = sorted([(n * (whole // d), name, (n, d)) for name, (n, d) in rows])
    return [(name, square) for _, name, square in found]


def at_point(map_things, point):
    """The names of the things of which the point is a point, in ascending order."""
    need(is_map(map_things), "map_things")
    need(is_point(point), "point")
    return [name for name, kind, shape in map_things if has_place(shape, point)]


def in_box(map_things, box, word):
    """The names of the things whose shapes lie in the box ("in") or meet it ("meets"), in ascending order."""
    need(is_map(map_things), "map_things")
    need(is_box(box), "box")
    need(is_word(word), "word")
    return [name for name, kind, shape in map_things if does_answer(shape, box, word)]


def meeting(map_things, shape):
    """The names of the things whose shapes meet the shape, in ascending order."""
    need(is_map(map_things), "map_things")
    need(is_shape(shape), "shape")
    return [name for name, kind, other in map_things if reaches_shape(other, shape)]


def nearest(map_things, point, kind, count):
    """The first of the nearest things of this kind, or of all kinds: pairs of a name and a square distance."""
    need(is_map(map_things), "map_things")
    need(is_point(point), "point")
    need(kind is None or is_name(kind), "kind")
    need(is_between(count, 0, MOST_THINGS), "count")
    rows = [(name, square_to(shape, point)) for name, own, shape in map_things if kind is None or kind == own]
    return in_order(rows)[:count]
