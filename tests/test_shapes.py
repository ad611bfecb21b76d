"""Points 113 to 116 and 121: shapes, maps, boxes, what meets and how far it is."""

import itertools
import random
import unittest
from fractions import Fraction

from tests.test_crossings import meeting_by_python
from tests.test_rings import COMB, NO_RINGS
from tests.test_sides import LONG, NO_LINES, NO_POINTS, gap_by_python
from tests.tools import Case, ODD_VALUES, grid, without
from trueatlas.rings import is_ring, place_in
from trueatlas.shapes import box_of, has_point, is_box, is_map, is_shape, lies_in, meet, meets_box, square_distance
from trueatlas.sides import lies_on

SQUARE = ((0, 0), (4, 0), (4, 4), (0, 4))
FRAME = ((-2, -2), (9, -2), (9, 9), (-2, 9))
HOLED = ("area", (FRAME, SQUARE))
SPOT = ("point", (2, 3))
BEND = ("line", ((6, 0), (6, 8), (8, 8)))
FIELD = ("area", (SQUARE,))
# Two rings of one area that cross each other.
CROSSED = ("area", (SQUARE, ((2, 2), (6, 2), (6, 6), (2, 6))))
SIX = ("area", (SQUARE,) * 6)
NO_SHAPES = ODD_VALUES + [("point", value) for value in NO_POINTS] + [("line", value) for value in NO_LINES] + [
    ("area", (value,)) for value in NO_RINGS] + [("area", value) for value in ODD_VALUES] + [
    ("area", (SQUARE,) * 7), ("area", [SQUARE]), ("area", SQUARE), ("area", (SQUARE[::-1],)), ("area", (SQUARE, None)),
    ["point", (2, 3)], ("point", (2, 3), ()), ("point",), ("Point", (2, 3)), ("", (2, 3)), (None, (2, 3)),
    ("ring", SQUARE), ("area", ("line", SQUARE)), (b"point", (2, 3)), ("line", LONG), (("point",), (2, 3)),
]
WELL = ("well", "spring", SPOT)
ROAD = ("road", "way", BEND)
NO_NAMES = [True, False, None, 0, 7, "", "A", "aB", "1a", "a_b", "a b", "a-b", " a", "a" * 13, "\u00e4", "a\u00b2",
            "a\u0661", "\u0430", b"a", ("a",), ["a"], 1.5, {}, "a\n"]
NO_THINGS = ODD_VALUES + [(value, "way", SPOT) for value in NO_NAMES] + [("well", value, SPOT) for value in NO_NAMES] + [
    ("well", "way", value) for value in NO_SHAPES] + [
    ("well", "way"), ("well", "way", SPOT, None), ["well", "way", SPOT], ("well", SPOT, "way"), WELL[:2] + BEND]
SIXTY = tuple((f"t{k:02d}", "k", ("point", (k, k))) for k in range(61))
NO_MAPS = without(()) + [(value,) for value in NO_THINGS] + [
    WELL, [WELL], (WELL, ROAD), (WELL, WELL), (WELL, ("well", "way", BEND)), SIXTY, (ROAD, WELL, None),
    (ROAD, None, WELL), (("b", "k", SPOT), ("a1", "k", SPOT)), (("a10", "k", SPOT), ("a1", "k", SPOT))]
NO_BOXES = ODD_VALUES + [
    (0, 0, 4), (0, 0, 4, 4, 4), [0, 0, 4, 4], (5, 0, 4, 4), (0, 5, 4, 4), (0, 0, 1001, 4), (-1001, 0, 4, 4),
    (0, -1001, 4, 4), (0, 0, 4, 1001), (0, 0, 4, True), (False, 0, 4, 4), (0, 0.0, 4, 4), (0, 0, "4", 4),
    (0, 0, None, 4), ((0, 0), (4, 4)), "0044", {0: 0, 1: 0, 2: 4, 3: 4},
]


def edges_by_python(shape):
    """The edges of a shape with the lesser end first."""
    word, what = shape
    if word == "point":
        return []
    rows = [what] if word == "line" else [ring + ring[:1] for ring in what]
    return [(min(pair), max(pair)) for row in rows for pair in zip(row, row[1:])]


def has(shape, p):
    """Whether a point is a point of a shape, by the words of the document."""
    word, what = shape
    if word == "point":
        return what == p
    if word == "line":
        return any(lies_on(p, edge) for edge in edges_by_python(shape))
    places = [place_in(p, ring) for ring in what]
    return "on" in places or places.count("in") % 2 == 1


def some_ring(source, reach):
    """A ring within this reach."""
    while True:
        points = tuple((source.randint(0, reach), source.randint(0, reach)) for _ in range(source.randint(3, 6)))
        if is_ring(points):
            return points


def some_shape(source, reach):
    """A shape within this reach."""
    word = source.choice(("point", "line", "line", "area", "area"))
    if word == "point":
        return (word, (source.randint(0, reach), source.randint(0, reach)))
    if word == "area":
        return (word, tuple(some_ring(source, reach) for _ in range(source.randint(1, 3))))
    points = [(source.randint(0, reach), source.randint(0, reach))]
    while len(points) < 4:
        p = (source.randint(0, reach), source.randint(0, reach))
        if p != points[-1]:
            points.append(p)
    return (word, tuple(points[:source.randint(2, 4)]))


def some_shapes(seed, many):
    source = random.Random(seed)
    return [some_shape(source, source.choice((3, 5, 9))) for _ in range(many)]


def many_times(shape, factor):
    """The shape made greater by a whole factor."""
    def greater(value):
        return factor * value if isinstance(value, int) else tuple(greater(item) for item in value)
    return (shape[0], greater(shape[1]))


def do_meet(first, second):
    """Whether two shapes have a common point, from the pieces of their edges."""
    ends = [point for shape in (first, second) for point in corners(shape)]
    for edge, other in itertools.product(edges_by_python(first), edges_by_python(second)):
        if meeting_by_python(edge, other) != ("none",):
            return True
    return any(has(first, p) and has(second, p) for p in ends)


def corners(shape):
    word, what = shape
    return [what] if word == "point" else list(what) if word == "line" else [p for ring in what for p in ring]


def box_shape(box):
    """A box as a shape, also without width or height."""
    x0, y0, x1, y1 = box
    if x0 < x1 and y0 < y1:
        return ("area", (((x0, y0), (x1, y0), (x1, y1), (x0, y1)),))
    return ("line", ((x0, y0), (x1, y1))) if (x0, y0) != (x1, y1) else ("point", (x0, y0))


def some_boxes(seed, many):
    source = random.Random(seed)
    for _ in range(many):
        x, y = source.randint(0, 8), source.randint(0, 8)
        yield (x, y, x + source.choice((0, 0, 1, 2, 5)), y + source.choice((0, 0, 1, 2, 5)))


class FormTest(Case):

    def test_shapes(self):
        for value in (SPOT, BEND, FIELD, HOLED, CROSSED, SIX, ("point", (-1000, 1000)), ("line", LONG[:40]),
                      ("line", ((0, 0), (1, 0), (0, 0))), ("area", (COMB,))):
            self.assertIs(is_shape(value), True, value)
        for value in NO_SHAPES:
            self.assertIs(is_shape(value), False, value)

    def test_maps(self):
        for value in ((), (WELL,), (ROAD, WELL), SIXTY[:60], SIXTY[1:], (("a", "a", SIX),),
                      (("a1", "k", SPOT), ("a10", "k", SPOT), ("aa", "k", SPOT)),
                      (("a" * 12, "z" * 12, SPOT),), (("a0123456789z", "k9", SPOT),)):
            self.assertIs(is_map(value), True, value)
        for value in NO_MAPS:
            self.assertIs(is_map(value), False, value)

    def test_boxes(self):
        for value in ((0, 0, 4, 4), (0, 0, 0, 0), (0, 0, 0, 4), (0, 0, 4, 0), (-1000, -1000, 1000, 1000)):
            self.assertIs(is_box(value), True, value)
        for value in NO_BOXES:
            self.assertIs(is_box(value), False, value)

    def test_equal_names_and_order(self):
        for order in itertools.permutations((("a", "k", SPOT), ("b", "k", SPOT), ("c", "k", SPOT))):
            self.assertIs(is_map(order), order[0][0] == "a" and order[1][0] == "b")


class BoxOfTest(Case):

    def test_some(self):
        self.same(box_of(SPOT), (2, 3, 2, 3))
        self.same(box_of(BEND), (6, 0, 8, 8))
        self.same(box_of(HOLED), (-2, -2, 9, 9))
        self.same(box_of(CROSSED), (0, 0, 6, 6))
        self.same(box_of(("line", ((5, -1), (-3, 7), (0, 0)))), (-3, -1, 5, 7))

    def test_the_least_one(self):
        for shape in some_shapes(114, 80):
            x0, y0, x1, y1 = box_of(shape)
            self.assertIs(lies_in(shape, (x0, y0, x1, y1)), True)
            for less in ((x0 + 1, y0, x1, y1), (x0, y0 + 1, x1, y1), (x0, y0, x1 - 1, y1), (x0, y0, x1, y1 - 1)):
                if is_box(less):
                    self.assertIs(lies_in(shape, less), False)

    def test_refused(self):
        self.refuses(box_of, ("shape", SPOT, NO_SHAPES))


class HasPointTest(Case):

    def test_some(self):
        self.assertEqual([p for p in grid(-1, 6) if has_point(SPOT, p)], [(2, 3)])
        self.assertEqual([p for p in grid(0, 9) if has_point(BEND, p)],
                         [(6, y) for y in range(9)] + [(7, 8), (8, 8)])
        self.assertEqual([p for p in grid(-1, 6) if has_point(FIELD, p)], grid(0, 4))

    def test_holes_and_crossing_rings(self):
        for p in ((2, 2), (1, 3)):
            self.assertIs(has_point(HOLED, p), False)
        for p in ((0, 0), (4, 2), (-1, 5), (9, 9), (6, 2)):
            self.assertIs(has_point(HOLED, p), True)
        self.assertEqual([has_point(CROSSED, (k, k)) for k in range(-1, 8)],
                         [False, True, True, True, False, True, True, True, False])

    def test_as_the_document_tells(self):
        for shape in some_shapes(113, 80):
            for p in grid(-1, 10):
                self.assertIs(has_point(shape, p), has(shape, p))

    def test_refused(self):
        self.refuses(has_point, ("shape", SPOT, NO_SHAPES[::2]), ("point", (0, 0), NO_POINTS))


class BoxesTest(Case):

    def test_lies_in(self):
        self.assertIs(lies_in(FIELD, (0, 0, 4, 4)), True)
        self.assertIs(lies_in(FIELD, (0, 0, 4, 3)), False)
        self.assertIs(lies_in(SPOT, (2, 3, 2, 3)), True)
        self.assertIs(lies_in(SPOT, (2, 4, 2, 4)), False)
        self.assertIs(lies_in(BEND, (5, -1, 8, 8)), True)
        self.assertIs(lies_in(("line", ((6, 0), (6, 8))), (6, 0, 6, 8)), True)

    def test_lies_in_as_corners_tell(self):
        for shape, box in zip(some_shapes(115, 300), some_boxes(115, 300)):
            box = (box[0] - 4, box[1] - 4, box[2], box[3])
            inside = all(box[0] <= x <= box[2] and box[1] <= y <= box[3] for x, y in corners(shape))
            self.assertIs(lies_in(shape, box), inside)

    def test_meets_box(self):
        for box, wanted in (((1, 1, 2, 2), True), ((4, 4, 9, 9), True), ((5, 0, 9, 9), False), ((-9, -9, 9, 9), True),
                            ((3, 3, 3, 3), True), ((4, 2, 4, 2), True), ((-1, 2, 9, 2), True), ((5, 2, 9, 2), False)):
            self.assertIs(meets_box(FIELD, box), wanted, box)
        for box, wanted in (((1, 1, 3, 3), False), ((1, 1, 4, 3), True), ((0, 0, 0, 0), True), ((6, 6, 7, 7), True),
                            ((10, 0, 12, 3), False), ((2, 2, 2, 2), False), ((1, 2, 3, 2), False)):
            self.assertIs(meets_box(HOLED, box), wanted, box)
        slanting = ("line", ((0, 0), (8, 4)))
        for box, wanted in (((0, 1, 1, 4), False), ((0, 1, 2, 4), True), ((3, 1, 3, 1), False), ((4, 2, 4, 2), True),
                            ((3, 1, 3, 2), True), ((3, 2, 3, 4), False), ((9, 4, 9, 9), False), ((8, 4, 9, 9), True),
                            ((5, 0, 8, 2), False), ((5, 0, 8, 3), True), ((-9, -9, 0, 0), True)):
            self.assertIs(meets_box(slanting, box), wanted, box)
        # Only one corner of the box is on the line, above it or below it.
        for box in ((4, 0, 6, 2), (2, 2, 4, 3), (2, 1, 2, 1), (4, 2, 4, 9), (3, 2, 4, 9), (4, -9, 5, 2)):
            self.assertIs(meets_box(slanting, box), True, box)
        falling = ("line", ((0, 4), (8, 0)))
        for box, wanted in (((4, 2, 6, 3), True), ((2, 1, 4, 2), True), ((5, 2, 6, 3), False), ((2, 1, 3, 2), False)):
            self.assertIs(meets_box(falling, box), wanted, box)
        self.assertIs(meets_box(SPOT, (2, 3, 2, 3)), True)
        self.assertIs(meets_box(SPOT, (0, 0, 9, 9)), True)
        self.assertIs(meets_box(SPOT, (2, 2, 9, 2)), False)

    def test_meets_box_as_its_shape(self):
        seen = {}
        for shape, box in zip(some_shapes(116, 600), some_boxes(116, 600)):
            wanted = do_meet(shape, box_shape(box))
            self.assertIs(meets_box(shape, box), wanted)
            seen[shape[0], box_shape(box)[0], wanted] = True
        self.assertGreaterEqual(len(seen), 17)

    def test_refused(self):
        for call in (lies_in, meets_box):
            self.refuses(call, ("shape", SPOT, NO_SHAPES[::3]), ("box", (0, 0, 4, 4), NO_BOXES))


class MeetTest(Case):

    def test_in_one_point(self):
        self.assertIs(meet(FIELD, ("area", (((4, 4), (8, 4), (8, 8), (4, 8)),))), True)
        self.assertIs(meet(FIELD, ("area", (((5, 4), (8, 4), (8, 8), (5, 8)),))), False)
        self.assertIs(meet(FIELD, ("line", ((2, 7), (4, 4), (7, 2)))), True)
        self.assertIs(meet(FIELD, ("line", ((4, 5), (5, 4)))), False)
        self.assertIs(meet(BEND, ("line", ((0, 4), (6, 4)))), True)
        self.assertIs(meet(BEND, ("line", ((0, 4), (5, 4)))), False)
        self.assertIs(meet(SPOT, SPOT), True)
        self.assertIs(meet(SPOT, ("point", (3, 2))), False)

    def test_wholly_within(self):
        self.assertIs(meet(FIELD, SPOT), True)
        self.assertIs(meet(FIELD, ("line", ((1, 1), (3, 2)))), True)
        self.assertIs(meet(FIELD, ("area", (((1, 1), (2, 1), (1, 2)),))), True)
        self.assertIs(meet(HOLED, ("area", (((6, 6), (7, 6), (6, 7)),))), True)

    def test_within_a_hole(self):
        for shape in (SPOT, ("line", ((1, 1), (3, 2))), ("area", (((1, 1), (2, 1), (1, 2)),))):
            self.assertIs(meet(HOLED, shape), False)
            self.assertIs(meet(shape, HOLED), False)
        self.assertIs(meet(HOLED, ("line", ((1, 1), (4, 2)))), True)
        # The second ring lies in the frame, the first one in its hole.
        two = ("area", (((1, 1), (2, 1), (1, 2)), ((6, 6), (7, 6), (6, 7))))
        self.assertIs(meet(HOLED, two), True)
        self.assertIs(meet(two, HOLED), True)
        self.assertIs(meet(HOLED, ("area", (((1, 1), (2, 1), (1, 2)), ((20, 6), (27, 6), (20, 9))))), False)

    def test_around(self):
        wide = ("area", (((-9, -9), (20, -9), (20, 20), (-9, 20)), ((-3, -3), (10, -3), (10, 10), (-3, 10))))
        self.assertIs(meet(wide, HOLED), False)
        self.assertIs(meet(("area", wide[1][:1]), HOLED), True)

    def test_at_no_whole_point(self):
        self.assertIs(meet(("line", ((0, 0), (3, 1))), ("line", ((0, 1), (2, 0)))), True)
        self.assertIs(meet(("line", ((0, 0), (3, 1))), ("line", ((0, 1), (1, 1)))), False)

    def test_as_edges_and_corners_tell(self):
        seen = {}
        shapes = some_shapes(117, 900)
        for first, second in zip(shapes, shapes[1:]):
            wanted = do_meet(first, second)
            self.assertIs(meet(first, second), wanted)
            self.assertIs(meet(second, first), wanted)
            seen[first[0], second[0], wanted] = True
        self.assertGreaterEqual(len(seen), 17)

    def test_with_a_point(self):
        for shape in some_shapes(118, 40):
            for p in grid(0, 9):
                self.assertIs(meet(shape, ("point", p)), has_point(shape, p))

    def test_refused(self):
        self.refuses(meet, ("first", SPOT, NO_SHAPES[::2]), ("second", FIELD, NO_SHAPES[::2]))


class SquareDistanceTest(Case):

    def test_examples(self):
        road = ("line", ((6, 0), (6, 8)))
        self.same(square_distance(FIELD, (4, 2)), (0, 1))
        self.same(square_distance(road, (4, 2)), (4, 1))
        self.same(square_distance(road, (9, 12)), (25, 1))
        self.same(square_distance(FIELD, (9, 12)), (89, 1))

    def test_some(self):
        self.same(square_distance(SPOT, (2, 3)), (0, 1))
        self.same(square_distance(SPOT, (5, -1)), (25, 1))
        self.same(square_distance(FIELD, (1, 1)), (0, 1))
        self.same(square_distance(HOLED, (1, 2)), (1, 1))
        self.same(square_distance(HOLED, (2, 2)), (4, 1))
        self.same(square_distance(("line", ((0, 0), (2, 1))), (1, 1)), (1, 5))
        self.same(square_distance(("line", ((9, 9), (0, 0), (2, 1))), (2, 0)), (4, 5))
        self.same(square_distance(("point", (-1000, -1000)), (1000, 1000)), (8000000, 1))

    def test_as_python_tells(self):
        zeros = 0
        for shape in some_shapes(119, 120):
            for p in ((0, 0), (4, 4), (10, 3), (2, 7), (-3, 12)):
                gaps = [gap_by_python(p, edge)[1] for edge in edges_by_python(shape)]
                gaps += [Fraction((p[0] - x) ** 2 + (p[1] - y) ** 2) for x, y in corners(shape)]
                least = Fraction(0) if has(shape, p) else min(gaps)
                self.same(square_distance(shape, p), (least.numerator, least.denominator))
                zeros += least == 0
        self.assertGreater(zeros, 20)

    def test_greater(self):
        for shape in some_shapes(120, 40):
            n, d = square_distance(shape, (5, 7))
            self.assertEqual(Fraction(*square_distance(many_times(shape, 6), (30, 42))), 36 * Fraction(n, d))

    def test_refused(self):
        self.refuses(square_distance, ("shape", SPOT, NO_SHAPES[::2]), ("point", (0, 0), NO_POINTS))


if __name__ == "__main__":
    unittest.main()
