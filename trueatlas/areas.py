"""Areas: what rings of exact points cover, and what is made of two areas."""

from trueatlas.checks import need
from trueatlas.fractions import lowest, plus
from trueatlas.overlays import bits_at, overlay_of, rings_around, ways_along
from trueatlas.shapes import is_box
from trueatlas.sides import is_point
from trueatlas.triples import is_between_ends, is_exact_point, line_through, side_of, triple_of

MOST_POINTS = 80
LEAST_OF_RING = 3

FIRST = 1
SECOND = 2
BOTH = 3


def are_rings(value, is_right):
    """Whether the value is a tuple of rings of at most 80 points in all, each of which is right."""
    if not isinstance(value, tuple) or not all(isinstance(ring, tuple) for ring in value):
        return False
    if any(len(ring) < LEAST_OF_RING for ring in value) or sum(len(ring) for ring in value) > MOST_POINTS:
        return False
    if not all(is_right(p) for ring in value for p in ring):
        return False
    return all(p != q for ring in value for p, q in zip(ring, ring[1:] + ring[:1]))


def is_area(value):
    """Whether the value is an area."""
    return are_rings(value, is_exact_point)


def need_both(first, second):
    """Refuse the two arguments of a function unless they are areas."""
    need(is_area(first), "first")
    need(is_area(second), "second")


def as_area(rings):
    """The area with these rings of whole points."""
    return tuple([tuple([((x, 1), (y, 1)) for x, y in ring]) for ring in rings])


def ways_of(area, bits):
    """The ways along all rings of an area."""
    return [way for ring in area for way in ways_along(ring + ring[:1], bits)]


def overlay_of_both(first, second):
    """The overlay of two areas."""
    return overlay_of(ways_of(first, FIRST) + ways_of(second, SECOND))


def bits_of_both(first, second):
    """The bits that occur beside the pieces of two areas."""
    _, _, left = overlay_of_both(first, second)
    return sorted(set(list(left.values())))


def total(terms):
    """The sum of some fractions."""
    if len(terms) < 2:
        return terms[0] if terms else (0, 1)
    # Both halves have about equally long numbers then: one after another, each sum would be as long as the last one.
    half = len(terms) // 2
    return plus(total(terms[:half]), total(terms[half:]))


def area_of(rings):
    """The area with these rings of points of the map, as they are."""
    need(are_rings(rings, is_point), "rings")
    return as_area(rings)


def side_in(area, point):
    """Where an exact point lies: "on" an edge of the area, "in" it or "out" of it."""
    need(is_area(area), "area")
    need(is_exact_point(point), "point")
    ways = ways_of(area, FIRST)
    p = triple_of(point)
    if any(side_of(line_through(a, b), p) == 0 and is_between_ends(p, a, b) for a, b, _ in ways):
        return "on"
    return "in" if bits_at(ways, p) == FIRST else "out"


def union(first, second):
    """The normal area of what at least one of the two areas covers."""
    need_both(first, second)
    return rings_around(overlay_of_both(first, second), (FIRST, SECOND, BOTH))


def common(first, second):
    """The normal area of what both areas cover."""
    need_both(first, second)
    return rings_around(overlay_of_both(first, second), (BOTH,))


def difference(first, second):
    """The normal area of what the first area covers and the second one does not."""
    need_both(first, second)
    return rings_around(overlay_of_both(first, second), (FIRST,))


def either(first, second):
    """The normal area of what exactly one of the two areas covers."""
    need_both(first, second)
    return rings_around(overlay_of_both(first, second), (FIRST, SECOND))


def normal(area):
    """The normal area that is the same."""
    need(is_area(area), "area")
    return rings_around(overlay_of_both(area, ()), (FIRST,))


def is_same(first, second):
    """Whether both areas cover the same points."""
    need_both(first, second)
    found = bits_of_both(first, second)
    return FIRST not in found and SECOND not in found


def contains(first, second):
    """Whether the first area contains the second one."""
    need_both(first, second)
    return SECOND not in bits_of_both(first, second)


def overlap(first, second):
    """Whether the two areas overlap."""
    need_both(first, second)
    return BOTH in bits_of_both(first, second)


def size_of(area):
    """Twice what the area covers, a fraction."""
    need(is_area(area), "area")
    terms = []
    for p, q, _ in ways_of(normal(area), FIRST):
        terms.append(lowest(p[0] * q[1] - p[1] * q[0], p[2] * q[2]))
    return total(terms)


def rest_of(box, area):
    """The normal area of what is in the box and not covered by the area."""
    need(is_box(box) and box[0] < box[2] and box[1] < box[3], "box")
    need(is_area(area), "area")
    x0, y0, x1, y1 = box
    whole = as_area((((x0, y0), (x1, y0), (x1, y1), (x0, y1)),))
    return rings_around(overlay_of_both(whole, area), (FIRST,))
