"""Points 11, 12, 21, 22 and 24: how segments meet."""

import random
import unittest
from fractions import Fraction

from tests.tools import Case, grid, mirrored, moved, segment_by, some_segments, turned
from tests.test_sides import NO_SEGMENTS, told
from trueatlas.crossings import meeting
from trueatlas.sides import lies_on


def all_segments(least, most):
    """All segments between points with coordinates between these."""
    points = grid(least, most)
    return [(p, q) for p in points for q in points if p < q]


def meeting_by_python(first, second):
    """How two segments meet, from equations solved by Python's fractions."""
    (ax, ay), (bx, by) = first
    (cx, cy), (dx, dy) = second
    area = (bx - ax) * (dy - cy) - (by - ay) * (dx - cx)
    if area == 0:
        ends = sorted({p for p in first + second if lies_on(p, first) and lies_on(p, second)})
        return [("none",), ("touch", *ends), ("overlap", *ends)][len(ends)]
    s = Fraction((cx - ax) * (dy - cy) - (cy - ay) * (dx - cx), area)
    t = Fraction((cx - ax) * (by - ay) - (cy - ay) * (bx - ax), area)
    if not (0 <= s <= 1 and 0 <= t <= 1):
        return ("none",)
    x, y = ax + s * (bx - ax), ay + s * (by - ay)
    if s in (0, 1) or t in (0, 1):
        return ("touch", (int(x), int(y)))
    return ("cross", told(x), told(y))


class MeetingTest(Case):

    def test_examples(self):
        self.same(meeting(((0, 0), (3, 1)), ((0, 1), (2, 0))), ("cross", (6, 5), (2, 5)))
        self.same(meeting(((0, 0), (4, 0)), ((2, 0), (2, 5))), ("touch", (2, 0)))
        self.same(meeting(((0, 0), (4, 0)), ((1, 0), (6, 0))), ("overlap", (1, 0), (4, 0)))
        self.same(meeting(((0, 0), (4, 0)), ((0, 1), (4, 1))), ("none",))

    def test_common_end(self):
        self.same(meeting(((0, 0), (4, 0)), ((4, 0), (6, 5))), ("touch", (4, 0)))
        self.same(meeting(((0, 0), (4, 0)), ((0, 0), (6, 5))), ("touch", (0, 0)))
        self.same(meeting(((0, 0), (4, 0)), ((4, 0), (9, 0))), ("touch", (4, 0)))
        self.same(meeting(((4, 0), (9, 0)), ((0, 0), (4, 0))), ("touch", (4, 0)))

    def test_on_one_line(self):
        self.same(meeting(((0, 0), (4, 2)), ((6, 3), (8, 4))), ("none",))
        self.same(meeting(((0, 0), (8, 4)), ((2, 1), (4, 2))), ("overlap", (2, 1), (4, 2)))
        self.same(meeting(((2, 1), (4, 2)), ((0, 0), (8, 4))), ("overlap", (2, 1), (4, 2)))
        self.same(meeting(((0, 0), (4, 2)), ((0, 0), (4, 2))), ("overlap", (0, 0), (4, 2)))
        self.same(meeting(((0, 0), (4, 2)), ((0, 0), (2, 1))), ("overlap", (0, 0), (2, 1)))
        self.same(meeting(((0, 0), (0, 4)), ((0, 3), (0, 9))), ("overlap", (0, 3), (0, 4)))
        self.same(meeting(((0, 4), (4, 0)), ((1, 3), (8, -4))), ("overlap", (1, 3), (4, 0)))

    def test_parallel(self):
        self.same(meeting(((0, 0), (4, 2)), ((0, 1), (4, 3))), ("none",))
        self.same(meeting(((0, 0), (9, 9)), ((1, 0), (9, 8))), ("none",))

    def test_end_on_the_other_one(self):
        self.same(meeting(((2, 0), (2, 5)), ((0, 0), (4, 0))), ("touch", (2, 0)))
        self.same(meeting(((0, 0), (4, 4)), ((2, 2), (3, -9))), ("touch", (2, 2)))
        self.same(meeting(((0, 0), (4, 4)), ((-9, 1), (3, 3))), ("touch", (3, 3)))

    def test_near_but_apart(self):
        self.same(meeting(((0, 0), (4, 4)), ((2, 3), (0, 9))[::-1]), ("none",))
        self.same(meeting(((0, 0), (4, 4)), ((3, 2), (9, 0))), ("none",))
        self.same(meeting(((0, 0), (4, 4)), ((4, 0), (5, 9))), ("none",))

    def test_at_a_whole_point(self):
        self.same(meeting(((0, 0), (4, 4)), ((0, 4), (4, 0))), ("cross", (2, 1), (2, 1)))

    def test_far(self):
        first = ((-1000, -1000), (1000, 999))
        second = ((-1000, 1000), (1000, -999))
        self.same(meeting(first, second), meeting_by_python(first, second))
        self.assertEqual(meeting(first, second)[0], "cross")

    def test_all_small_ones(self):
        for first in all_segments(0, 2):
            for second in all_segments(0, 2):
                self.same(meeting(first, second), meeting_by_python(first, second))

    def test_many(self):
        source = random.Random(12)
        kinds = set()
        for reach in (3, 4, 6, 1000):
            rows = some_segments(source, 60, reach)
            for first in rows:
                for second in rows:
                    wanted = meeting_by_python(first, second)
                    kinds.add(wanted[0])
                    self.same(meeting(first, second), wanted)
        self.assertEqual(sorted(kinds), ["cross", "none", "overlap", "touch"])

    def test_kept(self):
        source = random.Random(24)
        rows = some_segments(source, 30, 4)
        for first in rows:
            for second in rows:
                found = meeting(first, second)
                self.same(meeting(second, first), found)
                for way in (moved, turned, mirrored):
                    other = meeting(segment_by(way, first), segment_by(way, second))
                    self.assertEqual(other[0], found[0])
                    if found[0] in ("touch", "overlap"):
                        self.same(other[1:], tuple(sorted(way(p) for p in found[1:])))
                    if found[0] == "cross":
                        x, y = way((Fraction(*found[1]), Fraction(*found[2])))
                        self.same(other[1:], (told(Fraction(x)), told(Fraction(y))))

    def test_refused(self):
        edge = ((0, 0), (3, 1))
        self.refuses(meeting, ("first", edge, NO_SEGMENTS), ("second", edge, NO_SEGMENTS))


if __name__ == "__main__":
    unittest.main()
