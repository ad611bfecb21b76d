"""Areas by a second calculation: Python's own fractions, sides told by points close beside each piece."""

from fractions import Fraction
from functools import cmp_to_key

CLOSE = Fraction(1, 10 ** 60)


def told(value):
    """The fraction as the program writes one of Python's."""
    return (value.numerator, value.denominator)


def exact(x, y):
    """The exact point with these coordinates."""
    return (told(Fraction(x)), told(Fraction(y)))


def plain_rings(area):
    """The rings of an area with Python's fractions."""
    return [[(Fraction(*x), Fraction(*y)) for x, y in ring] for ring in area]


def ways_of(area):
    """The ways of an area from each point to the next one."""
    return [way for ring in plain_rings(area) for way in zip(ring, ring[1:] + ring[:1])]


def cross(p, q):
    return p[0] * q[1] - p[1] * q[0]


def minus(p, q):
    return (p[0] - q[0], p[1] - q[1])


def along(p, way, t):
    """The point at t of the way from p."""
    return (p[0] + t * way[0], p[1] + t * way[1])


def is_on_way(p, way):
    """Whether the point lies on the way."""
    a, b = way
    if cross(minus(b, a), minus(p, a)) != 0:
        return False
    return min(a[0], b[0]) <= p[0] <= max(a[0], b[0]) and min(a[1], b[1]) <= p[1] <= max(a[1], b[1])


def is_covered(area, p):
    """Whether the area covers the point, counted along the ray to the east."""
    count = 0
    for (ax, ay), (bx, by) in ways_of(area):
        if (ay > p[1]) != (by > p[1]):
            count += ax + (p[1] - ay) * (bx - ax) / (by - ay) > p[0]
    return count % 2 == 1


def place_of(area, p):
    """Where the point is, told as side_in tells it."""
    if any(is_on_way(p, way) for way in ways_of(area)):
        return "on"
    return "in" if is_covered(area, p) else "out"


def cuts_of(way, ways):
    """How far along a way others meet it, ends included, in order."""
    a, b = way
    found = {Fraction(0), Fraction(1)}
    step = minus(b, a)
    for c, d in ways:
        other = minus(d, c)
        if cross(step, other) != 0:
            s = cross(minus(c, a), other) / cross(step, other)
            t = cross(minus(c, a), step) / cross(step, other)
            if 0 <= s <= 1 and 0 <= t <= 1:
                found.add(s)
        elif cross(step, minus(c, a)) == 0:
            for p in (c, d):
                s = sum(step[k] * (p[k] - a[k]) for k in (0, 1)) / sum(part * part for part in step)
                if 0 <= s <= 1:
                    found.add(s)
    return sorted(found)


def pieces_of(areas):
    """The pieces of all edges, cut wherever two meet."""
    ways = [way for area in areas for way in ways_of(area)]
    found = set()
    for a, b in ways:
        row = [along(a, minus(b, a), t) for t in cuts_of((a, b), ways)]
        found.update((min(pair), max(pair)) for pair in zip(row, row[1:]))
    return found


def covered_left(areas, wanted, p, q):
    """Whether what is wanted of the areas is directly left of the way from p to q."""
    step = minus(q, p)
    middle = along(p, step, Fraction(1, 2))
    beside = (middle[0] - CLOSE * step[1], middle[1] + CLOSE * step[0])
    return wanted(*[is_covered(area, beside) for area in areas])


def around(centre, points):
    """The points in the order of their directions from the centre, counter-clockwise."""
    def compare(p, q):
        first, second = minus(p, centre), minus(q, centre)
        behind = [way < (0, 0) for way in (first, second)]
        if behind[0] != behind[1]:
            return -1 if behind[1] else 1
        return -1 if cross(first, second) > 0 else 1
    return sorted(points, key=cmp_to_key(compare))


def normal_by_python(areas, wanted):
    """The normal area of what is wanted, of whether each of the areas covers a point."""
    directed = []
    for p, q in pieces_of(areas):
        sides = [covered_left(areas, wanted, *way) for way in ((p, q), (q, p))]
        if sides[0] != sides[1]:
            directed.append((p, q) if sides[0] else (q, p))
    ends = {}
    for p, q in directed:
        ends.setdefault(p, []).append(q)
        ends.setdefault(q, []).append(p)
    order = {p: around(p, row) for p, row in ends.items()}
    rings = []
    left = set(directed)
    while left:
        way = min(left)
        ring = []
        while way in left:
            left.remove(way)
            ring.append(way[0])
            row = order[way[1]]
            way = (way[1], row[row.index(way[0]) - 1])
        rings.append(least_ring(ring))
    return tuple(tuple(exact(x, y) for x, y in ring) for ring in sorted(rings))


def least_ring(ring):
    """The ring without the points at which it goes straight on, as the least of its tuples."""
    many = len(ring)
    corners = [p for k, p in enumerate(ring) if cross(minus(p, ring[k - 1]), minus(ring[(k + 1) % many], p)) != 0]
    return min(corners[k:] + corners[:k] for k in range(len(corners)))


def size_by_python(area):
    """Twice what a normal area covers."""
    return sum((cross(p, q) for p, q in ways_of(area)), Fraction(0))
