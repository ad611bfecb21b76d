"""Points 4, 10, 11, 13, 14, 21 to 24: points, segments, lines, turns, feet and gaps."""

import random
import unittest
from fractions import Fraction

from tests.tools import Case, ODD_VALUES, grid, mirrored, moved, segment_by, some_segments, turned
from trueatlas.sides import foot_of, gap_of, is_line, is_point, is_segment, lies_on, nearest_edge, turn

NO_POINTS = ODD_VALUES + [
    (1001, 0), (0, 1001), (-1001, 0), (0, -1001), (0, 0, 0), [0, 0], (True, 0), (0, False), (0, None), ("0", "0"),
    (0.0, 0), (10 ** 20, 0), (0, -10 ** 20), ((0, 0), (1, 0)), ((0, 1), (0, 1)),
]
NO_SEGMENTS = ODD_VALUES + [
    ((0, 0), (0, 0)), ((1, 0), (0, 0)), ((0, 1), (0, 0)), ((0, 0), (1, 0), (2, 0)), ((0, 0),), [(0, 0), (1, 0)],
    ((0, 0), (1001, 0)), ((-1001, 0), (0, 0)), ((0, 0), (1, True)), ((False, 0), (1, 0)), (0, 0), (0, 1, 2, 3),
]
LONG = tuple((k, k % 2) for k in range(41))
NO_LINES = ODD_VALUES + [
    LONG, ((0, 0),), ((0, 0), (0, 0)), ((0, 0), (1, 1), (1, 1)), ((0, 0), (0, 0), (1, 1)), [(0, 0), (1, 0)],
    ((0, 0), (1001, 0)), ((0, 0), [1, 0]), ((0, 0), (1, 0), (True, 1)), ((0, 0), (1, 0), 5), ((0, 0), (1, 0), None),
]
EDGE = ((0, 0), (4, 2))


def gap_by_python(p, segment):
    """The foot and the gap, as Python's fractions tell them."""
    (ax, ay), (bx, by) = segment
    along = Fraction((p[0] - ax) * (bx - ax) + (p[1] - ay) * (by - ay), (bx - ax) ** 2 + (by - ay) ** 2)
    foot = min(max(along, Fraction(0)), Fraction(1))
    return foot, (p[0] - ax - foot * (bx - ax)) ** 2 + (p[1] - ay - foot * (by - ay)) ** 2


def told(value):
    """The fraction as this program writes one of Python's."""
    return (value.numerator, value.denominator)


class FormTest(Case):

    def test_points(self):
        for value in ((0, 0), (1000, 1000), (-1000, -1000), (-1000, 1000), (3, -7)):
            self.assertIs(is_point(value), True, value)
        for value in NO_POINTS:
            self.assertIs(is_point(value), False, value)

    def test_segments(self):
        for value in (((0, 0), (1, 0)), ((0, 0), (0, 1)), ((-1, 5), (0, -5)), ((-1000, -1000), (1000, 1000))):
            self.assertIs(is_segment(value), True, value)
        for value in NO_SEGMENTS:
            self.assertIs(is_segment(value), False, value)

    def test_lines(self):
        for value in (((0, 0), (1, 0)), ((1, 0), (0, 0)), ((0, 0), (1, 0), (0, 0)), LONG[:40], LONG[1:],
                      ((-1000, 1000), (1000, -1000)), ((0, 0), (2, 0), (1, 0), (3, 0))):
            self.assertIs(is_line(value), True, value)
        for value in NO_LINES:
            self.assertIs(is_line(value), False, value)


class TurnTest(Case):

    def test_example(self):
        self.same(turn((0, 0), (4, 0), (1, 2)), 8)

    def test_sides(self):
        self.same(turn((0, 0), (0, 5), (-1, 3)), 5)
        self.same(turn((0, 0), (0, 5), (1, 3)), -5)
        self.same(turn((0, 0), (2, 2), (-3, -3)), 0)
        self.same(turn((1, 1), (1, 1), (5, 9)), 0)
        self.same(turn((1, 1), (5, 9), (1, 1)), 0)
        self.same(turn((2, 3), (5, 3), (2, 9)), 18)
        self.same(turn((-1000, -1000), (1000, -1000), (1000, 1000)), 4000000)

    def test_kept(self):
        rows = grid(-1, 1)
        for a in rows:
            for b in rows:
                for c in rows:
                    told_turn = turn(a, b, c)
                    self.same(turn(b, c, a), told_turn)
                    self.same(turn(b, a, c), -told_turn)
                    self.same(turn(moved(a), moved(b), moved(c)), told_turn)
                    self.same(turn(turned(a), turned(b), turned(c)), told_turn)
                    self.same(turn(mirrored(a), mirrored(b), mirrored(c)), -told_turn)

    def test_refused(self):
        self.refuses(turn, ("a", (0, 0), NO_POINTS), ("b", (4, 0), NO_POINTS), ("c", (1, 2), NO_POINTS))


class LiesOnTest(Case):

    def test_some(self):
        for p in ((0, 0), (2, 1), (4, 2)):
            self.assertIs(lies_on(p, EDGE), True)
        for p in ((1, 1), (6, 3), (-2, -1), (2, 2), (2, 0), (4, 3)):
            self.assertIs(lies_on(p, EDGE), False)

    def test_upright(self):
        edge = ((3, -2), (3, 2))
        self.assertEqual([p for p in grid(-4, 4) if lies_on(p, edge)], [(3, y) for y in range(-2, 3)])

    def test_falling(self):
        edge = ((-2, 2), (2, -2))
        self.assertEqual([p for p in grid(-4, 4) if lies_on(p, edge)], [(x, -x) for x in range(-2, 3)])

    def test_where_there_is_no_gap(self):
        source = random.Random(10)
        for edge in some_segments(source, 60, 3):
            for p in grid(-3, 3):
                on = gap_by_python(p, edge)[1] == 0
                self.assertIs(lies_on(p, edge), on)
                for way in (moved, turned, mirrored):
                    self.assertIs(lies_on(way(p), segment_by(way, edge)), on)

    def test_refused(self):
        self.refuses(lies_on, ("p", (0, 0), NO_POINTS), ("segment", EDGE, NO_SEGMENTS))


class GapTest(Case):

    def test_some(self):
        edge = ((0, 0), (4, 0))
        self.same((foot_of((1, 3), edge), gap_of((1, 3), edge)), ((1, 4), (9, 1)))
        self.same((foot_of((-3, 4), edge), gap_of((-3, 4), edge)), ((0, 1), (25, 1)))
        self.same((foot_of((7, 4), edge), gap_of((7, 4), edge)), ((1, 1), (25, 1)))
        self.same((foot_of((0, 9), edge), gap_of((0, 9), edge)), ((0, 1), (81, 1)))
        self.same((foot_of((4, -9), edge), gap_of((4, -9), edge)), ((1, 1), (81, 1)))
        self.same((foot_of((2, 0), edge), gap_of((2, 0), edge)), ((1, 2), (0, 1)))

    def test_not_whole(self):
        edge = ((0, 0), (2, 1))
        self.same((foot_of((1, 1), edge), gap_of((1, 1), edge)), ((3, 5), (1, 5)))

    def test_far(self):
        edge = ((-1000, -1000), (1000, 999))
        foot, gap = gap_by_python((-1000, 1000), edge)
        self.same((foot_of((-1000, 1000), edge), gap_of((-1000, 1000), edge)), (told(foot), told(gap)))

    def test_as_python_tells(self):
        source = random.Random(13)
        for edge in some_segments(source, 40, 4):
            for p in grid(-3, 3):
                foot, gap = gap_by_python(p, edge)
                self.same(foot_of(p, edge), told(foot))
                self.same(gap_of(p, edge), told(gap))

    def test_kept(self):
        source = random.Random(21)
        for edge in some_segments(source, 30, 6):
            p = (source.randint(-6, 6), source.randint(-6, 6))
            for way in (moved, turned, mirrored):
                self.same(gap_of(way(p), segment_by(way, edge)), gap_of(p, edge))

    def test_refused(self):
        for call in (foot_of, gap_of):
            self.refuses(call, ("p", (0, 0), NO_POINTS), ("segment", EDGE, NO_SEGMENTS))


class NearestEdgeTest(Case):

    def test_some(self):
        line = ((0, 0), (4, 0), (4, 4), (0, 4))
        self.same(nearest_edge((3, 2), line), (1, (1, 1)))
        self.same(nearest_edge((1, 5), line), (2, (1, 1)))
        self.same(nearest_edge((1, 1), line), (0, (1, 1)))

    def test_several_are_as_near(self):
        line = ((0, 0), (4, 0), (4, 4), (0, 4))
        self.same(nearest_edge((2, 2), line), (0, (4, 1)))
        self.same(nearest_edge((4, 4), line), (1, (0, 1)))
        self.same(nearest_edge((3, 3), line), (1, (1, 1)))
        self.same(nearest_edge((0, 0), ((1, 0), (2, 0), (1, 0), (2, 0))), (0, (1, 1)))

    def test_a_fraction(self):
        self.same(nearest_edge((1, 1), ((9, 9), (0, 0), (2, 1))), (0, (0, 1)))
        self.same(nearest_edge((1, 1), ((9, 0), (0, 0), (2, 1))), (1, (1, 5)))

    def test_an_edge_backwards(self):
        self.same(nearest_edge((0, 1), ((9, 0), (5, 0), (0, 0))), (1, (1, 1)))

    def test_shortest_and_longest(self):
        self.same(nearest_edge((3, 0), ((0, 0), (1, 0))), (0, (4, 1)))
        self.same(nearest_edge((39, 5), LONG[:40]), (38, (16, 1)))
        self.same(nearest_edge((0, -3), tuple((k, 0) for k in range(0, 40))), (0, (9, 1)))

    def test_as_python_tells(self):
        source = random.Random(14)
        for _ in range(60):
            points = [(0, 0)]
            while len(points) < 6:
                p = (source.randint(-4, 4), source.randint(-4, 4))
                if p != points[-1]:
                    points.append(p)
            p = (source.randint(-5, 5), source.randint(-5, 5))
            gaps = [gap_by_python(p, (min(a, b), max(a, b)))[1] for a, b in zip(points, points[1:])]
            self.same(nearest_edge(p, tuple(points)), (gaps.index(min(gaps)), told(min(gaps))))

    def test_refused(self):
        self.refuses(nearest_edge, ("p", (0, 0), NO_POINTS), ("line", ((0, 0), (1, 0)), NO_LINES))


if __name__ == "__main__":
    unittest.main()
