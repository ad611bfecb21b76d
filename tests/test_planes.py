"""Points 37 to 40, 43 and 47 to 50: planes, half-edges, cycles and parts."""

import itertools
import random
import unittest
from math import atan2, pi

from tests.test_crossings import meeting_by_python
from tests.tools import Case, ODD_VALUES, mirrored, moved, shuffled, some_segments, turned
from trueatlas.cleaning import cleaned
from trueatlas.planes import cycle_list, cycle_sizes, is_plane, next_half, part_list, plane_of

SQUARE = [((0, 0), (4, 0)), ((4, 0), (4, 4)), ((4, 4), (0, 4)), ((0, 4), (0, 0)), ((0, 0), (4, 4))]
PLANE = (((0, 0), (0, 4), (4, 0), (4, 4)), ((0, 1), (0, 2), (0, 3), (1, 3), (2, 3)))
POINTS, EDGES = PLANE
# A square, within it a triangle and a point without edges, and in the triangle an edge that ends there.
NESTED = plane_of([
    ((0, 0), (20, 0)), ((20, 0), (20, 20)), ((20, 20), (0, 20)), ((0, 20), (0, 0)),
    ((4, 4), (16, 4)), ((16, 4), (4, 16)), ((4, 16), (4, 4)), ((4, 4), (6, 6)),
])
BARE = (((-5, 0), (1, 1), (7, -3)), ())
GRID = [((x, y), (x + 1, y)) for x in range(9) for y in range(6)]
GRID += [((x, y), (x, y + 1)) for x in range(10) for y in range(5)]
GRID += [((x, y), (x + 1, y + 1)) for x in range(9) for y in range(5)]
SIXTY = tuple((k // 6, k % 6) for k in range(60))
NO_PLANES = ODD_VALUES + [
    (POINTS,), (POINTS, EDGES, ()), [POINTS, EDGES], (list(POINTS), EDGES), (POINTS, list(EDGES)), (POINTS, None),
    (None, EDGES), (EDGES, POINTS), ((), ()), (POINTS[::-1], EDGES), (POINTS, EDGES[::-1]), (POINTS, EDGES + EDGES),
    (POINTS + POINTS[-1:], ()), (POINTS[:1] + POINTS[:1], ()), (POINTS, EDGES + ((2, 4),)), (POINTS, ((-1, 1),)),
    (POINTS, ((1, 0),)), (POINTS, ((1, 1),)), (POINTS, ((0, True),)), (POINTS, ((False, 1),)), (POINTS, ([0, 1],)),
    (POINTS, ((0, 1, 2),)), (POINTS, ((0,),)), (POINTS, (0, 1)), (POINTS, ((0, 1), None)), (POINTS, (("a", "b"),)),
    (POINTS, ((0, 1), (0, 1))), (POINTS, ((0, 2), (0, 1))), (POINTS, ((0, 3), (1, 2))), (POINTS, ((0, 1.0),)),
    (POINTS[:3] + ((4, 1001),), EDGES), (POINTS[:3] + ([4, 4],), EDGES), (POINTS[:3] + ((4, True),), ()),
    (((0, 0), (1, 0), (2, 0)), ((0, 2),)), (((0, 0), (1, 0), (2, 0)), ((0, 1), (0, 2))),
    (((0, 0), (1, 0), (2, 0), (3, 0)), ((0, 2), (1, 3))), (((0, 0), (2, 0), (2, 5), (4, 0)), ((0, 3), (1, 2))),
    (SIXTY + ((99, 0),), ()), (SIXTY, tuple(itertools.combinations(range(60), 2))),
]
NO_LISTS = ODD_VALUES + [
    tuple(SQUARE), SQUARE + [None], SQUARE + [((1, 1), (1, 1))], SQUARE + [[(5, 5), (6, 6)]], SQUARE + [((5, 5),)],
    SQUARE + [((5, 5), (6, 6), (7, 7))], SQUARE + [((5, 5), [6, 6])], SQUARE + [((5, 5), (6, True))], SQUARE + [(5, 6)],
    SQUARE + [((5, 5), (6, 1001))], SQUARE + [((0, 4), (4, 0))], SQUARE + [((0, 0), (2, 2))], [((0, 0), (2, 0)), None],
    [((9, 9), (9, 9))], [((5, 1001), (6, 6))], [([5, 5], (6, 6))], [((True, 5), (6, 6))], [((5, 5, 5), (6, 6))],
    SQUARE + [((2, 2), (9, 0))], [((0, 0), (4, 0)), ((3, 0), (6, 0))], [((0, 0), (4, 0)), ((1, 0), (3, 0))],
    [((4, 0), (0, 0)), ((2, 5), (2, 0))], SQUARE * 24 + SQUARE[:1], GRID[:121], [((k, 0), (k, 1)) for k in range(31)],
]


def angle(points, j, k):
    """The direction from the point j to the point k."""
    return atan2(points[k][1] - points[j][1], points[k][0] - points[j][0])


def next_by_angles(plane, half):
    """The next half-edge, told by angles."""
    points, edges = plane
    i, j = half
    others = [b if a == j else a for a, b in edges if j in (a, b)]
    behind = {k: (angle(points, j, i) - angle(points, j, k)) % (2 * pi) for k in others if k != i}
    return (j, min(behind, key=behind.get, default=i))


def halves(plane):
    """All half-edges in ascending order."""
    return sorted(list(plane[1]) + [(j, i) for i, j in plane[1]])


def some_planes():
    """Planes of cleaned segments, some with points beside them."""
    source = random.Random(37)
    found = [PLANE, NESTED, BARE]
    while len(found) < 40:
        edges = cleaned(some_segments(source, source.randint(2, 12), source.choice((2, 3, 5, 9, 30))))[0]
        if len({p for edge in edges for p in edge}) <= 40:
            found.append(with_more_points(source, plane_of(list(edges))))
    return found


def with_more_points(source, plane):
    """The plane with some points without edges."""
    points, edges = plane
    for _ in range(source.choice((0, 0, 1, 3))):
        p = (source.randint(-30, 30), source.randint(-30, 30))
        longer = tuple(sorted(points + (p,)))
        moved_edges = tuple((longer.index(points[i]), longer.index(points[j])) for i, j in edges)
        if is_plane((longer, moved_edges)):
            points, edges = longer, moved_edges
    return points, edges


def plane_by(way, plane):
    """The plane whose points are led where this way of points leads."""
    points = tuple(sorted(way(p) for p in plane[0]))
    pairs = [sorted(points.index(way(plane[0][k])) for k in edge) for edge in plane[1]]
    return (points, tuple(sorted(tuple(pair) for pair in pairs)))


class IsPlaneTest(Case):

    def test_planes(self):
        for plane in (PLANE, NESTED, BARE, (((0, 0),), ()), (((0, 0), (1, 0), (2, 0)), ((0, 1), (1, 2))),
                      (((-1000, -1000), (1000, 1000)), ((0, 1),)), (SIXTY, ())):
            self.assertIs(is_plane(plane), True, plane)

    def test_others(self):
        for value in NO_PLANES:
            self.assertIs(is_plane(value), False, value)

    def test_how_many_edges(self):
        self.assertEqual(len(GRID), 149)
        points, edges = plane_of(GRID[:120])
        self.assertEqual(len(edges), 120)
        self.assertIs(is_plane((points, edges)), True)
        more = [tuple(sorted(SIXTY.index(p) for p in edge)) for edge in GRID]
        self.assertIs(is_plane((SIXTY, tuple(sorted(more[:120])))), True)
        self.assertIs(is_plane((SIXTY, tuple(sorted(more[:121])))), False)

    def test_all_edges_between_some_points(self):
        points = ((0, 0), (0, 2), (1, 1), (2, 0), (2, 2))
        pairs = list(itertools.combinations(range(5), 2))
        rights = 0
        for many in range(5):
            for edges in itertools.combinations(pairs, many):
                wanted = True
                ways = [(points[i], points[j]) for i, j in edges]
                for first, second in itertools.combinations(ways, 2):
                    found = meeting_by_python(first, second)
                    ends = [p for p in first if p in second]
                    wanted = wanted and (found == ("none",) or found[0] == "touch" and found[1] in ends)
                wanted = wanted and (0, 4) not in edges and (1, 3) not in edges
                rights += wanted
                self.assertIs(is_plane((points, edges)), wanted, edges)
        self.assertGreater(rights, 20)


class PlaneOfTest(Case):

    def test_example(self):
        self.same(plane_of(SQUARE), PLANE)

    def test_order_direction_and_equal_ones(self):
        for seed in range(10):
            rows = shuffled(SQUARE + SQUARE[:3] + [edge[::-1] for edge in SQUARE], seed)
            self.same(plane_of(rows), PLANE)

    def test_one(self):
        self.same(plane_of([((3, 0), (-3, 0))]), (((-3, 0), (3, 0)), ((0, 1),)))

    def test_bounds(self):
        self.assertEqual(len(plane_of([((k, 0), (k, 1)) for k in range(30)])[0]), 60)
        self.same(plane_of(SQUARE * 24), PLANE)
        self.assertEqual(len(plane_of(GRID[:120])[1]), 120)

    def test_of_cleaned_segments(self):
        for plane in some_planes():
            self.assertIs(is_plane(plane), True)

    def test_refused(self):
        self.refuses(plane_of, ("segments", SQUARE, NO_LISTS))

    def test_arguments_are_not_changed(self):
        rows = list(SQUARE)
        plane_of(rows)
        self.assertEqual(rows, SQUARE)


class CycleTest(Case):

    def test_example(self):
        self.same(cycle_list(PLANE), [(0, 1, 3, 2), (0, 2, 3), (0, 3, 1)])
        self.same(cycle_sizes(PLANE), [-32, 16, 16])

    def test_next(self):
        self.same(next_half(PLANE, (0, 1)), (1, 3))
        self.same(next_half(PLANE, (3, 0)), (0, 2))
        self.same(next_half(PLANE, (1, 0)), (0, 3))
        self.same(next_half(PLANE, (2, 0)), (0, 1))

    def test_along_an_edge_in_both_directions(self):
        plane = plane_of([((0, 0), (4, 0))])
        self.same(next_half(plane, (0, 1)), (1, 0))
        self.same(next_half(plane, (1, 0)), (0, 1))
        self.same(cycle_list(plane), [(0, 1)])
        self.same(cycle_sizes(plane), [0])
        tree = plane_of([((0, 0), (4, 0)), ((4, 0), (8, 4)), ((4, 0), (8, -4))])
        self.same(cycle_list(tree), [(0, 1, 3, 1, 2, 1)])
        self.same(cycle_sizes(tree), [0])

    def test_nested(self):
        points = ((0, 0), (0, 20), (4, 4), (4, 16), (6, 6), (16, 4), (20, 0), (20, 20))
        self.same(NESTED[0], points)
        self.same(cycle_list(NESTED), [(0, 1, 7, 6), (0, 6, 7, 1), (2, 3, 5), (2, 4, 2, 5, 3)])
        self.same(cycle_sizes(NESTED), [-800, 800, -144, 144])

    def test_all_directions(self):
        ways = [(x, y) for x in range(-2, 3) for y in range(-2, 3) if (x, y) != (0, 0) and max(abs(x), abs(y)) == 2]
        plane = plane_of([((0, 0), way) for way in ways])
        centre = plane[0].index((0, 0))
        for k in range(len(plane[0])):
            if k != centre:
                self.same(next_half(plane, (k, centre)), next_by_angles(plane, (k, centre)))
                self.same(next_half(plane, (centre, k)), (k, centre))

    def test_as_angles_tell(self):
        for plane in some_planes():
            for half in halves(plane):
                self.same(next_half(plane, half), next_by_angles(plane, half))

    def test_cycles_follow_next(self):
        for plane in some_planes():
            cycles = cycle_list(plane)
            met = []
            for cycle in cycles:
                steps = list(zip(cycle, cycle[1:] + cycle[:1]))
                for half, other in zip(steps, steps[1:] + steps[:1]):
                    self.same(next_half(plane, half), other)
                self.assertEqual(steps[0], min(steps))
                met.extend(steps)
            self.assertEqual(sorted(met), halves(plane))
            self.assertEqual([cycle[:2] for cycle in cycles], sorted(cycle[:2] for cycle in cycles))

    def test_sizes(self):
        for plane in some_planes():
            points, _ = plane
            sizes = []
            for cycle in cycle_list(plane):
                ways = zip(cycle, cycle[1:] + cycle[:1])
                sizes.append(sum((points[i][0] - points[j][0]) * (points[i][1] + points[j][1]) for i, j in ways))
            self.same(cycle_sizes(plane), sizes)
            self.assertEqual(sum(sizes), 0)

    def test_kept(self):
        for plane in some_planes():
            sizes = sorted(cycle_sizes(plane))
            for way in (turned, moved):
                self.assertEqual(sorted(cycle_sizes(plane_by(way, plane))), sizes)
            self.assertEqual(len(cycle_list(plane_by(mirrored, plane))), len(sizes))
            for way in (turned, moved, mirrored):
                self.assertEqual(sorted(map(len, part_list(plane_by(way, plane)))), sorted(map(len, part_list(plane))))

    def test_a_returned_list_is_not_used_again(self):
        cycle_list(PLANE).clear()
        cycle_sizes(PLANE).append(5)
        part_list(PLANE).clear()
        self.same((cycle_list(PLANE), cycle_sizes(PLANE), part_list(PLANE)),
                  ([(0, 1, 3, 2), (0, 2, 3), (0, 3, 1)], [-32, 16, 16], [(0, 1, 2, 3)]))

    def test_refused(self):
        no_halves = ODD_VALUES + [(1, 2), (2, 1), (0, 0), (0, 4), (4, 0), (-1, 0), (0, -1), [0, 1], (0, 1, 2), (0,),
                                  (0, True), (True, 0), (False, 1), (1.0, 0), ((0, 1), (0, 2)), (0, -3), (3, 3)]
        self.refuses(next_half, ("plane", PLANE, NO_PLANES), ("half", (0, 1), no_halves))
        for call in (cycle_list, cycle_sizes, part_list):
            self.refuses(call, ("plane", PLANE, NO_PLANES))
        for half in itertools.product(range(-1, 5), repeat=2):
            if half not in halves(PLANE):
                self.bad("half", next_half, PLANE, half)


class PartTest(Case):

    def test_some(self):
        self.same(part_list(PLANE), [(0, 1, 2, 3)])
        self.same(part_list(NESTED), [(0, 1, 6, 7), (2, 3, 4, 5)])
        self.same(part_list(BARE), [(0,), (1,), (2,)])
        self.same(part_list((((0, 0),), ())), [(0,)])

    def test_joined_late(self):
        plane = (((0, 0), (1, 5), (2, -1), (3, 6), (4, 0), (5, 5)), ((0, 4), (1, 5), (3, 5)))
        self.same(part_list(plane), [(0, 4), (1, 3, 5), (2,)])

    def test_by_walks(self):
        for plane in some_planes():
            points, edges = plane
            wanted = []
            for start in range(len(points)):
                if any(start in part for part in wanted):
                    continue
                part = {start}
                for _ in points:
                    part |= {k for edge in edges if set(edge) & part for k in edge}
                wanted.append(tuple(sorted(part)))
            self.same(part_list(plane), wanted)

    def test_no_edges(self):
        self.same((cycle_list(BARE), cycle_sizes(BARE), len(part_list(BARE))), ([], [], 3))


if __name__ == "__main__":
    unittest.main()
