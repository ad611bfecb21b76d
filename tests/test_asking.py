"""Points 114 to 117, 121 and 122: what is at a point, in a box, at a shape, near a point."""

import random
import unittest
from fractions import Fraction

from tests.test_shapes import (BEND, CROSSED, FIELD, HOLED, NO_BOXES, NO_MAPS, NO_NAMES, NO_SHAPES, SIXTY, SPOT,
                               box_shape, corners, do_meet, edges_by_python, has, some_boxes, some_shape)
from tests.test_sides import NO_POINTS, gap_by_python
from tests.tools import Case, ODD_VALUES, grid
from trueatlas.asking import at_point, in_box, meeting, nearest

SQUARE = ("square", "field", ("area", (((0, 0), (4, 0), (4, 4), (0, 4)),)))
ROAD = ("road", "way", ("line", ((6, 0), (6, 8))))
THINGS = (ROAD, SQUARE)
NO_WORDS = ODD_VALUES + ["In", "in ", "meet", "MEETS", "lies", b"in", ("in",), ["meets"], "inmeets"]
NO_COUNTS = [-1, 61, 10 ** 20, True, False, None, "5", 2.0, (), (1,), [1]]
NO_KINDS = [value for value in NO_NAMES if value is not None]


def some_things(source, many, reach=9):
    """A map of this number of things at most, and some of them alike."""
    names = sorted({source.choice("abc") + str(source.randint(0, 99)) for _ in range(many)})
    return tuple((name, source.choice(("a", "b", "c")), some_shape(source, reach)) for name in names)


def square_by_python(shape, p):
    """The square of the distance, by the words of point 116."""
    if has(shape, p):
        return Fraction(0)
    gaps = [gap_by_python(p, edge)[1] for edge in edges_by_python(shape)]
    return min(gaps + [Fraction((p[0] - x) ** 2 + (p[1] - y) ** 2) for x, y in corners(shape)])


class AtPointTest(Case):

    def test_example(self):
        self.same(at_point(THINGS, (4, 2)), ["square"])
        self.same(at_point(THINGS, (5, 2)), [])
        self.same(at_point(THINGS, (6, 8)), ["road"])

    def test_of_all_forms(self):
        things = (("bend", "k", BEND), ("crossed", "k", CROSSED), ("holed", "k", HOLED), ("spot", "k", SPOT))
        self.same(at_point(things, (2, 3)), ["crossed", "spot"])
        self.same(at_point(things, (6, 2)), ["bend", "crossed", "holed"])
        self.same(at_point(things, (3, 3)), [])
        self.same(at_point(things, (6, 6)), ["bend", "crossed", "holed"])

    def test_no_things(self):
        self.same(at_point((), (0, 0)), [])

    def test_as_shapes_tell(self):
        source = random.Random(114)
        for _ in range(40):
            things = some_things(source, 12)
            for p in grid(0, 9)[::7]:
                self.same(at_point(things, p), [name for name, _, shape in things if has(shape, p)])

    def test_sixty(self):
        self.same(at_point(SIXTY[:60], (7, 7)), ["t07"])
        same = tuple((name, kind, SPOT) for name, kind, _ in SIXTY[:60])
        self.same(at_point(same, (2, 3)), [name for name, _, _ in same])

    def test_at_the_bounds(self):
        things = (("far", "k", ("point", (-1000, 1000))), ("near", "k", ("line", ((-1000, -1000), (1000, 1000)))))
        self.same(at_point(things, (-1000, 1000)), ["far"])
        self.same(at_point(things, (1000, 1000)), ["near"])

    def test_refused(self):
        self.refuses(at_point, ("map_things", THINGS, NO_MAPS[::2]), ("point", (0, 0), NO_POINTS))


class InBoxTest(Case):

    def test_example(self):
        self.same(in_box(THINGS, (4, 1, 6, 2), "meets"), ["road", "square"])
        self.same(in_box(THINGS, (0, 0, 5, 5), "in"), ["square"])

    def test_some(self):
        for box, lying, met in (((0, 0, 6, 8), ["road", "square"], ["road", "square"]),
                                ((6, 0, 6, 8), ["road"], ["road"]),
                                ((5, 0, 5, 9), [], []), ((1, 1, 1, 1), [], ["square"]),
                                ((4, 4, 6, 4), [], ["road", "square"]),
                                ((-9, -9, 9, 3), [], ["road", "square"]), ((7, 0, 9, 9), [], []),
                                ((0, 0, 4, 4), ["square"], ["square"]), ((0, 0, 4, 3), [], ["square"])):
            self.same(in_box(THINGS, box, "in"), lying)
            self.same(in_box(THINGS, box, "meets"), met)

    def test_no_things(self):
        self.same(in_box((), (0, 0, 1, 1), "in"), [])
        self.same(in_box((), (0, 0, 0, 0), "meets"), [])

    def test_as_shapes_tell(self):
        source = random.Random(115)
        seen = {}
        for box in some_boxes(115, 200):
            things = some_things(source, 8)
            met = [name for name, _, shape in things if do_meet(shape, box_shape(box))]
            lying = [name for name, _, shape in things
                     if all(box[0] <= x <= box[2] and box[1] <= y <= box[3] for x, y in corners(shape))]
            self.same(in_box(things, box, "meets"), met)
            self.same(in_box(things, box, "in"), lying)
            self.assertLessEqual(set(lying), set(met))
            seen[box_shape(box)[0], bool(met), bool(lying)] = True
        self.assertGreaterEqual(len(seen), 8)

    def test_refused(self):
        for word in ("in", "meets"):
            self.refuses(in_box, ("map_things", THINGS, NO_MAPS[::3]), ("box", (0, 0, 4, 4), NO_BOXES),
                         ("word", word, NO_WORDS))


class MeetingTest(Case):

    def test_some(self):
        self.same(meeting(THINGS, SPOT), ["square"])
        self.same(meeting(THINGS, ("line", ((4, 4), (6, 8)))), ["road", "square"])
        self.same(meeting(THINGS, ("line", ((5, 0), (5, 9)))), [])
        self.same(meeting(THINGS, ("area", (((-9, -9), (9, -9), (9, 9), (-9, 9)),))), ["road", "square"])
        self.same(meeting(THINGS, ("area", (((5, 3), (6, 3), (5, 4)),))), ["road"])
        self.same(meeting((), SPOT), [])

    def test_with_itself(self):
        source = random.Random(116)
        for name, kind, shape in some_things(source, 60):
            self.same(meeting(((name, kind, shape),), shape), [name])

    def test_as_shapes_tell(self):
        source = random.Random(117)
        for _ in range(60):
            things, shape = some_things(source, 8), some_shape(source, 9)
            self.same(meeting(things, shape), [name for name, _, other in things if do_meet(other, shape)])

    def test_refused(self):
        self.refuses(meeting, ("map_things", THINGS, NO_MAPS[::3]), ("shape", SPOT, NO_SHAPES))


class NearestTest(Case):

    def test_example(self):
        self.same(nearest(THINGS, (4, 2), None, 2), [("square", (0, 1)), ("road", (4, 1))])
        self.same(nearest(THINGS, (9, 12), "way", 5), [("road", (25, 1))])
        self.same(nearest(THINGS, (9, 12), None, 60), [("road", (25, 1)), ("square", (89, 1))])

    def test_counts(self):
        self.same(nearest(THINGS, (4, 2), None, 0), [])
        self.same(nearest(THINGS, (4, 2), None, 1), [("square", (0, 1))])
        self.same(nearest((), (4, 2), None, 60), [])
        found = nearest(SIXTY[:60], (0, 0), None, 60)
        self.same(found, [(f"t{k:02d}", (2 * k * k, 1)) for k in range(60)])
        self.same(nearest(SIXTY[:60], (59, 59), None, 59),
                  [(f"t{k:02d}", (2 * (59 - k) ** 2, 1)) for k in range(59, 0, -1)])

    def test_kinds(self):
        self.same(nearest(THINGS, (4, 2), "field", 5), [("square", (0, 1))])
        self.same(nearest(THINGS, (4, 2), "sea", 5), [])
        self.same(nearest((("a", "b", SPOT), ("b", "a", SPOT)), (2, 3), "a", 5), [("b", (0, 1))])

    def test_equal_distances(self):
        things = tuple((name, "k", ("point", p)) for name, p in (
            ("a", (3, 4)), ("a1", (5, 0)), ("a10", (-4, 3)), ("b", (0, 0)), ("c", (0, -5)), ("d", (1, 0))))
        self.same([name for name, _ in nearest(things, (0, 0), None, 9)], ["b", "d", "a", "a1", "a10", "c"])
        self.same(nearest(things, (0, 0), None, 4)[2:], [("a", (25, 1)), ("a1", (25, 1))])
        lines = (("x", "k", ("line", ((0, 1), (1, 0)))), ("y", "k", ("line", ((0, 1), (2, -1)))),
                 ("w", "k", ("line", ((-1, 0), (0, -1)))))
        self.same(nearest(tuple(sorted(lines)), (0, 0), None, 9), [("w", (1, 2)), ("x", (1, 2)), ("y", (1, 2))])

    def test_close_fractions(self):
        # 1000 * 1000 / (1000 * 1000 + 1) and its like differ by very little.
        things = (("a", "k", ("line", ((-1000, 1), (0, 1)))), ("b", "k", ("line", ((-500, 1), (499, 0)))),
                  ("c", "k", ("line", ((-999, 1), (999, 0)))), ("d", "k", ("line", ((-1000, 1), (1000, 0)))))
        found = nearest(things, (-1, 0), None, 4)
        wanted = sorted((square_by_python(shape, (-1, 0)), name) for name, _, shape in things)
        self.same(found, [(name, (square.numerator, square.denominator)) for square, name in wanted])

    def test_in_lowest_terms(self):
        self.same(nearest((("a", "k", ("line", ((0, 0), (2, 2)))),), (2, 0), None, 1), [("a", (2, 1))])
        self.same(nearest((("a", "k", ("line", ((0, 0), (2, 1)))),), (1, 1), None, 1), [("a", (1, 5))])
        self.same(nearest((("a", "k", ("line", ((0, 0), (9, 3)))),), (1, 1), None, 1), [("a", (2, 5))])

    def test_as_python_tells(self):
        source = random.Random(118)
        for _ in range(60):
            things = some_things(source, 20)
            p, kind = (source.randint(-3, 12), source.randint(-3, 12)), source.choice((None, "a", "b"))
            count = source.choice((0, 1, 5, 60))
            rows = sorted((square_by_python(shape, p), name) for name, own, shape in things if kind in (None, own))
            self.same(nearest(things, p, kind, count),
                      [(name, (square.numerator, square.denominator)) for square, name in rows[:count]])

    def test_refused(self):
        self.refuses(nearest, ("map_things", THINGS, NO_MAPS[::3]), ("point", (0, 0), NO_POINTS),
                     ("kind", "way", NO_KINDS), ("count", 5, NO_COUNTS))
        self.refuses(nearest, ("map_things", THINGS, NO_MAPS[::30]), ("point", (0, 0), NO_POINTS[::3]),
                     ("kind", None, NO_KINDS[::2]), ("count", 60, NO_COUNTS))


class ListTest(Case):

    def test_lists_that_the_caller_changes(self):
        for call, arguments in ((at_point, (THINGS, (4, 2))), (in_box, (THINGS, (0, 0, 9, 9), "in")),
                                (meeting, (THINGS, SPOT)), (nearest, (THINGS, (4, 2), None, 2))):
            wanted = call(*arguments)
            call(*arguments).clear()
            call(*arguments).append("z")
            self.same(call(*arguments), wanted)


if __name__ == "__main__":
    unittest.main()
