"""Points 15 to 24: rings, sizes, places in rings, and hulls."""

import itertools
import random
import unittest

from tests.test_crossings import meeting_by_python
from tests.test_sides import NO_POINTS
from tests.tools import Case, ODD_VALUES, grid, mirrored, moved, turned
from trueatlas.rings import hull_of, is_hull, is_ring, place_in, ring_of, size_of
from trueatlas.sides import lies_on

SQUARE = ((0, 0), (4, 0), (4, 4), (0, 4))
# A comb: many corners stand at the same heights.
COMB = ((0, 0), (8, 0), (8, 4), (6, 4), (6, 2), (5, 2), (5, 4), (3, 4), (3, 1), (2, 1), (2, 4), (0, 4))
SAW = tuple((k, 0) for k in range(20)) + tuple((k, 1 + k % 2) for k in range(19, -1, -1))
NOT_SIMPLE = [
    ((0, 0), (4, 4), (4, 0), (0, 4)),
    ((0, 0), (4, 0), (4, 4), (2, 0), (0, 4)),
    ((0, 0), (4, 0), (4, 4), (2, -1), (0, 4)),
    ((0, 0), (4, 0), (2, 0), (2, 4)),
    ((0, 0), (4, 0), (4, 4), (4, 2), (0, 2), (0, 0)),
    ((0, 0), (4, 0), (0, 0), (0, 4)),
    ((0, 0), (4, 0), (4, 4), (4, 0), (0, 4)),
    ((0, 0), (0, 0), (4, 0), (4, 4)),
    ((0, 0), (4, 0), (4, 4), (0, 0)),
    ((0, 0), (2, 0), (4, 0)),
    ((0, 0), (4, 0), (2, 0)),
    ((0, 0), (1, 0), (0, 0)),
    ((1, 1), (1, 1), (1, 1)),
    ((0, 0), (2, 2), (4, 0), (4, 4), (2, 2), (0, 4)),
    ((0, 0), (9, 0), (9, 9), (5, 0), (4, 0), (0, 9)),
]
NO_TUPLES = ODD_VALUES + [
    list(SQUARE), SQUARE[:2], SQUARE + ((-1, True),), SQUARE + (None,), SQUARE + ([-1, 2],), (SQUARE,), SQUARE + (7,),
    SQUARE + ((-1, 1001),), SQUARE + ((-1, 2, 3),), ((0, 0),), SAW + ((-1, 1),), ((0, 0), (1, 0), (True, True)),
]
NO_RINGS = NO_TUPLES + NOT_SIMPLE + [SQUARE[::-1], SQUARE[1:] + SQUARE[:1], SQUARE[2:] + SQUARE[:2], COMB[::-1]]


def ways_of(points):
    """The ways from each point to the next one, around."""
    return list(zip(points, points[1:] + points[:1]))


def is_simple(points):
    """Whether the points go around simply, as another calculation tells it."""
    ways = ways_of(points)
    if any(p == q for p, q in ways):
        return False
    edges = [(min(way), max(way)) for way in ways]
    for i, j in itertools.combinations(range(len(edges)), 2):
        follow = j - i == 1 or j - i == len(edges) - 1
        if meeting_by_python(edges[i], edges[j])[0] != ("touch" if follow else "none"):
            return False
    return True


def twice_area(points):
    """Twice the area, told by trapezoids."""
    return sum((p[0] - q[0]) * (p[1] + q[1]) for p, q in ways_of(points))


def place_by_turns(p, ring):
    """The place of a point, told by how often the ring winds around it."""
    winding = 0
    for a, b in ways_of(ring):
        if lies_on(p, (min(a, b), max(a, b))):
            return "on"
        side = (b[0] - a[0]) * (p[1] - a[1]) - (b[1] - a[1]) * (p[0] - a[0])
        if a[1] <= p[1] < b[1] and side > 0:
            winding += 1
        if b[1] <= p[1] < a[1] and side < 0:
            winding -= 1
    return "in" if winding else "out"


def grown_ring(source, many, reach):
    """Points that go around simply, grown from a triangle by putting points into edges."""
    points = ((0, 0), (reach, 0), (0, reach))
    for _ in range(40 * many):
        place = source.randrange(len(points))
        p = (source.randint(-reach, reach), source.randint(-reach, reach))
        wider = points[:place + 1] + (p,) + points[place + 1:]
        if is_simple(wider):
            points = wider
        if len(points) == many:
            break
    return points


class IsRingTest(Case):

    def test_rings(self):
        for value in (SQUARE, COMB, SAW, ((0, 0), (2, 0), (4, 0), (4, 4)), ((0, 0), (1, 0), (0, 1)),
                      ((-1000, -1000), (1000, -1000), (1000, 1000), (-1000, 1000))):
            self.assertIs(is_ring(value), True, value)

    def test_others(self):
        for value in NO_RINGS:
            self.assertIs(is_ring(value), False, value)

    def test_how_many_points(self):
        self.assertEqual(len(SAW), 40)
        longer = tuple((k, 0) for k in range(21)) + SAW[20:]
        self.assertEqual(len(longer), 41)
        self.assertTrue(is_simple(longer))
        self.assertIs(is_ring(longer), False)
        self.bad("points", ring_of, longer)
        self.bad("points", size_of, longer)

    def test_all_small_ones(self):
        for many, most in ((3, 2), (4, 2)):
            for points in itertools.product(grid(0, most), repeat=many):
                wanted = points[0] == min(points) and is_simple(points) and twice_area(points) > 0
                self.assertIs(is_ring(points), wanted, points)

    def test_kept(self):
        for ring in (SQUARE, COMB):
            for way in (moved, turned):
                led = tuple(way(p) for p in ring)
                self.assertEqual(twice_area(led), twice_area(ring))
                self.assertIs(is_ring(led), led[0] == min(led))
            led = tuple(mirrored(p) for p in ring)
            self.same(size_of(led), -size_of(ring))
            self.assertIs(is_ring(led), False)


class RingOfTest(Case):

    def test_example(self):
        square = ring_of(((4, 4), (4, 0), (0, 0), (0, 4)))
        self.same((square, size_of(square)), (((0, 0), (4, 0), (4, 4), (0, 4)), 32))

    def test_from_everywhere_in_both_directions(self):
        for ring in (SQUARE, COMB, SAW, ((0, 0), (1, 0), (0, 1))):
            for start in range(len(ring)):
                points = ring[start:] + ring[:start]
                self.same(ring_of(points), ring)
                self.same(ring_of(points[::-1]), ring)

    def test_grown(self):
        source = random.Random(17)
        for _ in range(25):
            points = grown_ring(source, 9, 5)
            ring = ring_of(points)
            self.assertIs(is_ring(ring), True)
            self.assertEqual({frozenset(way) for way in ways_of(ring)}, {frozenset(way) for way in ways_of(points)})
            self.same(size_of(ring), abs(twice_area(points)))
            self.same(ring_of(ring), ring)

    def test_refused(self):
        self.refuses(ring_of, ("points", SQUARE, NO_TUPLES + NOT_SIMPLE))


class SizeTest(Case):

    def test_some(self):
        self.same(size_of(SQUARE), 32)
        self.same(size_of(SQUARE[::-1]), -32)
        self.same(size_of(((0, 0), (4, 4), (4, 0), (0, 4))), 0)
        self.same(size_of(((1, 1), (1, 1), (1, 1))), 0)
        self.same(size_of(((5, 5), (6, 5), (5, 6))), 1)
        self.same(size_of(((-1000, -1000), (1000, -1000), (1000, 1000), (-1000, 1000))), 8000000)

    def test_any_points(self):
        source = random.Random(15)
        for many in (3, 4, 7, 40):
            points = tuple((source.randint(-9, 9), source.randint(-9, 9)) for _ in range(many))
            self.same(size_of(points), twice_area(points))
            self.same(size_of(tuple(turned(p) for p in points)), twice_area(points))
            self.same(size_of(tuple(moved(p) for p in points)), twice_area(points))
            self.same(size_of(tuple(mirrored(p) for p in points)), -twice_area(points))

    def test_refused(self):
        self.refuses(size_of, ("points", SQUARE, NO_TUPLES))


class PlaceTest(Case):

    def test_example(self):
        self.same((place_in((1, 1), SQUARE), place_in((4, 2), SQUARE), place_in((5, 0), SQUARE)), ("in", "on", "out"))

    def test_at_heights_of_corners(self):
        for x, wanted in ((-1, "out"), (0, "on"), (1, "in"), (2, "on"), (3, "on"), (4, "in"), (5, "on"), (6, "on"),
                          (7, "in"), (8, "on"), (9, "out")):
            self.same(place_in((x, 2), COMB), wanted)
        for x, wanted in ((-1, "out"), (0, "on"), (1, "on"), (2, "on"), (4, "on"), (7, "on"), (9, "out")):
            self.same(place_in((x, 4), COMB), wanted)
        diamond = ((0, 0), (3, -3), (6, 0), (3, 3))
        for x, wanted in ((-1, "out"), (0, "on"), (1, "in"), (5, "in"), (6, "on"), (7, "out")):
            self.same(place_in((x, 0), diamond), wanted)
        self.same([place_in((x, 3), diamond) for x in (2, 3, 4)], ["out", "on", "out"])
        self.same([place_in((x, -3), diamond) for x in (2, 3, 4)], ["out", "on", "out"])

    def test_all_around(self):
        source = random.Random(16)
        rings = [SQUARE, COMB] + [ring_of(grown_ring(source, 8, 4)) for _ in range(15)]
        for ring in rings:
            for p in grid(-5, 9):
                self.same(place_in(p, ring), place_by_turns(p, ring))

    def test_rays_to_the_other_sides(self):
        source = random.Random(61)
        for _ in range(10):
            ring = ring_of(grown_ring(source, 8, 4))
            for p in grid(-4, 4):
                place = place_in(p, ring)
                for way in (turned, moved, mirrored):
                    self.same(place_in(way(p), ring_of(tuple(way(q) for q in ring))), place)

    def test_a_diagonal_parts_the_ring(self):
        source = random.Random(20)
        parted = 0
        for _ in range(12):
            ring = ring_of(grown_ring(source, 7, 4))
            for i, j in itertools.combinations(range(len(ring)), 2):
                if not (is_simple(ring[i:j + 1]) and is_simple(ring[j:] + ring[:i + 1])):
                    continue
                first, second = ring_of(ring[i:j + 1]), ring_of(ring[j:] + ring[:i + 1])
                if size_of(first) + size_of(second) != size_of(ring):
                    continue
                parted += 1
                for p in grid(-4, 4):
                    places = (place_in(p, first), place_in(p, second))
                    if "on" not in places:
                        self.same("in" in places, place_in(p, ring) == "in")
        self.assertGreater(parted, 20)

    def test_refused(self):
        self.refuses(place_in, ("p", (1, 1), NO_POINTS), ("ring", SQUARE, NO_RINGS))


def in_triangle(p, corners):
    """Whether a point lies in or on the triangle, which can be flat."""
    sides = [(b[0] - a[0]) * (p[1] - a[1]) - (b[1] - a[1]) * (p[0] - a[0]) for a, b in ways_of(corners)]
    if all(side == 0 for side in sides):
        return min(corners) <= p <= max(corners)
    return all(side >= 0 for side in sides) or all(side <= 0 for side in sides)


def corners_of(points):
    """The points that lie in no triangle of others, in any order."""
    places = sorted(set(points))
    found = []
    for p in places:
        others = [q for q in places if q != p]
        if not any(in_triangle(p, (a, b, c)) for a in others for b in others for c in others):
            found.append(p)
    return found


class HullTest(Case):

    def test_example(self):
        self.same(hull_of(((0, 0), (2, 0), (4, 0), (4, 4), (2, 2), (0, 4))), ((0, 0), (4, 0), (4, 4), (0, 4)))

    def test_one_place(self):
        self.same(hull_of(((3, 4),)), ((3, 4),))
        self.same(hull_of(((3, 4), (3, 4), (3, 4))), ((3, 4),))

    def test_one_line(self):
        self.same(hull_of(((4, 4), (0, 0), (2, 2), (0, 0))), ((0, 0), (4, 4)))
        self.same(hull_of(((0, 5), (0, -5), (0, 0))), ((0, -5), (0, 5)))
        self.same(hull_of(((3, 0), (0, 0))), ((0, 0), (3, 0)))
        self.same(hull_of(((0, 3), (3, 0), (2, 1))), ((0, 3), (3, 0)))

    def test_sixty(self):
        points = tuple((k % 8, k // 8) for k in range(60))
        self.same(hull_of(points), ((0, 0), (7, 0), (7, 6), (3, 7), (0, 7)))
        self.assertIs(is_hull(points, ((0, 0), (7, 0), (7, 6), (3, 7), (0, 7))), True)
        self.bad("points", hull_of, points + ((0, 0),))
        self.bad("points", is_hull, points + ((0, 0),), ())

    def test_corners(self):
        source = random.Random(18)
        for reach in (1, 2, 3, 9):
            for many in (1, 2, 3, 4, 5, 7, 9):
                points = tuple((source.randint(-reach, reach), source.randint(-reach, reach)) for _ in range(many))
                hull = hull_of(points)
                self.assertIsInstance(hull, tuple)
                self.assertEqual(sorted(hull), corners_of(points))
                self.same(hull[0], min(points))
                if len(hull) > 2:
                    self.assertIs(is_ring(hull), True)
                self.assertIs(is_hull(points, hull), True)

    def test_order_does_not_matter(self):
        points = ((0, 0), (2, 0), (4, 0), (4, 4), (2, 2), (0, 4))
        for order in itertools.permutations(points):
            self.same(hull_of(order), SQUARE)

    def test_kept(self):
        source = random.Random(81)
        for _ in range(20):
            points = tuple((source.randint(-4, 4), source.randint(-4, 4)) for _ in range(8))
            hull = hull_of(points)
            for way in (moved, turned, mirrored):
                led = hull_of(tuple(way(p) for p in points))
                self.assertEqual(sorted(led), sorted(way(p) for p in hull))

    def test_refused(self):
        self.refuses(hull_of, ("points", SQUARE, NO_TUPLES[:len(ODD_VALUES)] + [list(SQUARE), SQUARE + (None,)]))


class IsHullTest(Case):

    def test_every_row_of_the_points(self):
        for points in (((0, 0),), ((1, 1), (1, 1)), ((0, 0), (2, 2), (1, 1)), ((0, 0), (3, 0), (1, 1), (0, 3)),
                       ((0, 0), (2, 0), (2, 2), (0, 2), (1, 0)), ((0, 2), (1, 0), (3, 0), (4, 2), (2, 4))):
            right = 0
            for many in range(len(points) + 1):
                for value in itertools.permutations(points, many):
                    wanted = value == hull_of(points)
                    right += wanted and value == hull_of(points)
                    self.assertIs(is_hull(points, value), wanted, (points, value))
            self.assertGreater(right, 0)

    def test_a_star_is_none(self):
        points = ((0, 2), (1, 0), (3, 0), (4, 2), (2, 4))
        self.assertIs(is_hull(points, points), True)
        self.assertIs(is_hull(points, points[::2] + points[1::2]), False)

    def test_near_ones(self):
        points = ((0, 0), (2, 0), (4, 0), (4, 4), (2, 2), (0, 4))
        for value in (SQUARE[1:] + SQUARE[:1], SQUARE[::-1], SQUARE[:1] + SQUARE[:0:-1], list(SQUARE), SQUARE + SQUARE,
                      ((0, 0), (2, 0), (4, 0), (4, 4), (0, 4)), SQUARE[:3], SQUARE[:2], SQUARE[:1], (),
                      SQUARE[:3] + ((0, 5),), SQUARE[:3] + ([0, 4],), SQUARE[:3] + ((False, 4),), SQUARE + ((0, 0),),
                      ((0, 0), (5, 0), (4, 4), (0, 4)), SQUARE * 50):
            self.assertIs(is_hull(points, value), False, value)
        self.assertIs(is_hull(points, SQUARE), True)

    def test_a_corner_on_an_edge_of_the_hull(self):
        points = SQUARE + ((4, 2), (2, 4), (0, 2), (2, 0))
        self.assertIs(is_hull(points, SQUARE), True)
        for place, p in ((1, (2, 0)), (2, (4, 2)), (3, (2, 4)), (4, (0, 2))):
            self.assertIs(is_hull(points, SQUARE[:place] + (p,) + SQUARE[place:]), False)

    def test_points_beside_two_corners(self):
        self.assertIs(is_hull(((0, 0), (2, 0), (1, 0)), ((0, 0), (2, 0))), True)
        self.assertIs(is_hull(((0, 0), (2, 0), (3, 0)), ((0, 0), (2, 0))), False)
        self.assertIs(is_hull(((0, 0), (2, 0), (1, 1)), ((0, 0), (2, 0))), False)
        self.assertIs(is_hull(((0, 0), (2, 0)), ((2, 0), (0, 0))), False)
        self.assertIs(is_hull(((0, 0), (2, 0)), ((0, 0),)), False)

    def test_true_is_no_integer(self):
        self.assertIs(is_hull(((1, 0),), ((True, False),)), False)
        self.assertIs(is_hull(((1, 0),), ((1, 0),)), True)

    def test_every_value(self):
        for value in ODD_VALUES + NO_RINGS:
            wanted = value == hull_of(SQUARE) and isinstance(value, tuple)
            self.assertIs(is_hull(SQUARE, value), wanted, value)

    def test_refused(self):
        for points in ODD_VALUES + [list(SQUARE), SQUARE + (None,), SQUARE * 15 + ((1, 1),), SQUARE + ((0, True),)]:
            for value in (SQUARE, None, points):
                self.bad("points", is_hull, points, value)


if __name__ == "__main__":
    unittest.main()
