"""Points 75 and 79 to 88: which pixels are covered, and pictures."""

import random
import unittest
from fractions import Fraction

from tests.test_areas import area_of
from tests.test_crossings import all_segments
from tests.test_shapes import (BEND, CROSSED, FIELD, HOLED, NO_MAPS, NO_SHAPES, SPOT, edges_by_python, has, some_shape)
from tests.test_sides import NO_LINES
from tests.test_styles import NO_LOOKS, NO_SCALES, NO_STYLES, STYLE
from tests.tools import Case, ODD_VALUES
from trueatlas.areas import side_in
from trueatlas.painting import colour_at, covers, owner_at, picture
from trueatlas.rings import ring_of
from trueatlas.shapes import has_point, is_map
from trueatlas.styles import is_style, marks

EXAMPLE = (("field", "farm", ("area", (((0, 0), (24, 0), (24, 16), (0, 16)),))),
           ("road", "way", ("line", ((0, 2), (40, 2)))))
EXAMPLE_STYLE = (("farm", 0, 6, 0, ("fill", 5)), ("", 0, 2, 1, ("stroke", 9, 1)))
NO_PIXELS = [-2049, 2048, 10 ** 20, True, False, None, "0", "", 0.0, (), (0,), [0], b"0"]
NO_WINDOWS = ODD_VALUES + [
    (0, 0, 1), (0, 0, 1, 1, 1), [0, 0, 1, 1], (0, 0, 0, 1), (0, 0, 1, 0), (0, 0, 49, 1), (0, 0, 1, 49), (0, 0, -1, 1),
    (-2049, 0, 1, 1), (0, -2049, 1, 1), (2048, 0, 1, 1), (0, 2048, 1, 1), (2047, 0, 2, 1), (0, 2047, 1, 2),
    (2000, 0, 49, 1), (2001, 0, 48, 1), (0, 2001, 1, 48), (0, 0, True, 1), (False, 0, 1, 1), (0, 0, 1.0, 1),
    (0, 0, "1", 1), (0, 0, None, 1), ((0, 0), (1, 1)), (0, 0, 1, (1,)),
]


def centre(scale, px, py):
    """The centre of a pixel, with Python's fractions."""
    side = 2 ** scale
    return (Fraction(side * (2 * px + 1), 2), Fraction(side * (2 * py + 1), 2))


def square_gap(p, segment):
    """The square of the distance of a point from a segment."""
    (ax, ay), (bx, by) = segment
    along = ((p[0] - ax) * (bx - ax) + (p[1] - ay) * (by - ay)) / Fraction((bx - ax) ** 2 + (by - ay) ** 2)
    foot = min(max(along, Fraction(0)), Fraction(1))
    return (p[0] - ax - foot * (bx - ax)) ** 2 + (p[1] - ay - foot * (by - ay)) ** 2


def covers_by_python(look, shape, scale, px, py):
    """Whether a look covers a pixel, by the words of point 79."""
    c, side = centre(scale, px, py), 2 ** scale
    if look[0] == "dot":
        return (c[0] - shape[1][0]) ** 2 + (c[1] - shape[1][1]) ** 2 <= (side * look[2]) ** 2
    if look[0] == "stroke":
        reach = Fraction(side * look[2], 2) ** 2
        return any(square_gap(c, edge) <= reach for edge in edges_by_python(shape))
    count = 0
    for (ax, ay), (bx, by) in edges_by_python(shape):
        if min(ay, by) <= c[1] < max(ay, by):
            count += ax + (c[1] - ay) * (bx - ax) / (by - ay) > c[0]
    return count % 2 == 1


def owner_by_python(things, style, scale, px, py):
    """The highest mark that covers a pixel, or None."""
    shapes = {name: shape for name, _, shape in things}
    covering = [mark for mark in marks(things, style, scale)
                if covers_by_python(style[mark[1]][4], shapes[mark[2]], scale, px, py)]
    return max(covering, default=None)


def picture_by_python(things, style, scale, window):
    """The colours and the owners, pixel by pixel."""
    px, py, width, height = window
    rows = [[owner_by_python(things, style, scale, px + k, py + row) for k in range(width)]
            for row in range(height - 1, -1, -1)]
    return (tuple(tuple(0 if mark is None else style[mark[1]][4][1] for mark in row) for row in rows),
            [[None if mark is None else mark[2] for mark in row] for row in rows])


def some_map(source, reach, many=4):
    """A map of some things, and a style for them."""
    things = tuple((f"t{k}", source.choice(("a", "b")), greater(some_shape(source, 9), reach, source))
                   for k in range(source.randint(0, many)))
    looks = (("fill", 3), ("fill", 4), ("stroke", 5, 1), ("stroke", 6, 2), ("dot", 7, 1), ("dot", 8, 3), ("fill", 9))
    style = tuple((source.choice(("", "a", "b")), *sorted(source.choices(range(7), k=2)), source.randint(-1, 1),
                   source.choice(looks)) for _ in range(source.randint(0, 6)))
    return things, style


def greater(shape, factor, source):
    """The shape, made greater by a whole factor and moved."""
    dx, dy = source.randint(-9, 9), source.randint(-9, 9)
    return each_point(shape, lambda p: (factor * p[0] + dx, factor * p[1] + dy))


def each_point(shape, way):
    """The shape whose points are led where this way of points leads."""
    word, what = shape
    if word == "point":
        return (word, way(what))
    if word == "line":
        return (word, tuple(way(p) for p in what))
    return (word, tuple(tuple(way(p) for p in ring) for ring in what))


class CoversTest(Case):

    def row(self, look, shape, scale, py, first=-4, last=12):
        return [px for px in range(first, last) if covers(look, shape, scale, px, py)]

    def test_example(self):
        self.assertIs(covers(("dot", 1, 1), ("point", (2, 2)), 2, 0, 1), True)

    def test_fill(self):
        for py in range(4):
            self.same(self.row(("fill", 1), FIELD, 0, py), [0, 1, 2, 3])
        for py in (-1, 4):
            self.same(self.row(("fill", 1), FIELD, 0, py), [])
        self.same(self.row(("fill", 1), HOLED, 0, 2), [-2, -1, 4, 5, 6, 7, 8])
        self.same(self.row(("fill", 1), CROSSED, 0, 3), [0, 1, 4, 5])

    def test_fill_with_centres_on_edges(self):
        # At the scale 1 centres have odd coordinates: these edges go through them.
        field = ("area", (((-1, 1), (5, 1), (5, 5), (-1, 5)),))
        for py, wanted in ((-1, []), (0, [-1, 0, 1]), (1, [-1, 0, 1]), (2, [])):
            self.same(self.row(("fill", 1), field, 1, py), wanted)
        slanted = ("area", (((1, 1), (9, 1), (9, 9)),))
        for py, wanted in ((0, [0, 1, 2, 3]), (1, [1, 2, 3]), (3, [3]), (4, [])):
            self.same(self.row(("fill", 1), slanted, 1, py), wanted)

    def test_fill_at_the_height_of_corners(self):
        for points in (((1, 1), (5, 3), (9, 1), (9, 9), (1, 9)), ((1, 5), (5, 1), (9, 5), (5, 9)),
                       ((1, 1), (9, 5), (1, 9)), ((1, 3), (3, 3), (5, 1), (7, 3), (9, 3), (9, 7), (1, 7))):
            shape = ("area", (ring_of(points),))
            for px in range(-1, 6):
                for py in range(-1, 6):
                    self.assertIs(covers(("fill", 1), shape, 1, px, py),
                                  covers_by_python(("fill", 1), shape, 1, px, py))

    def test_fill_of_edges_that_stand_twice(self):
        beside = ("area", (((0, 0), (4, 0), (4, 4), (0, 4)), ((4, 0), (8, 0), (8, 4), (4, 4))))
        self.same(self.row(("fill", 1), beside, 0, 1), list(range(8)))
        twice = ("area", (((0, 0), (4, 0), (4, 4), (0, 4)),) * 2)
        self.same(self.row(("fill", 1), twice, 0, 1), [])
        self.same(self.row(("stroke", 1, 1), twice, 0, 1), [-1, 0, 3, 4])

    def test_stroke(self):
        line = ("line", ((0, 0), (8, 0)))
        self.same(self.row(("stroke", 1, 1), line, 0, 0), list(range(0, 8)))
        self.same(self.row(("stroke", 1, 1), line, 0, 1), [])
        self.same(self.row(("stroke", 1, 2), line, 0, 0), list(range(-1, 9)))
        self.same(self.row(("stroke", 1, 3), line, 0, 1), list(range(0, 8)))
        self.same(self.row(("stroke", 1, 1), HOLED, 0, 2), [-3, -2, -1, 0, 3, 4, 8, 9])

    def test_exactly_at_half_a_width(self):
        # The centre (3, 1) of the pixel (1, 0) at the scale 1; half of the width 2 is 2 there.
        for height, wanted in ((3, True), (-1, True), (4, False), (-2, False), (1, True)):
            self.assertIs(covers(("stroke", 1, 2), ("line", ((0, height), (9, height))), 1, 1, 0), wanted)
        for x, wanted in ((5, True), (6, False)):
            self.assertIs(covers(("stroke", 1, 2), ("line", ((x, 1), (9, 1))), 1, 1, 0), wanted)
        # The centre (1, 1) is 5 away from the end (4, -3) of a slanting line, straight across it.
        edge = ("line", ((0, 0), (8, 6)))
        self.assertIs(covers(("stroke", 1, 5), each_point(edge, lambda p: (p[0] + 4, p[1] - 3)), 1, 0, 0), True)
        self.assertIs(covers(("stroke", 1, 4), each_point(edge, lambda p: (p[0] + 4, p[1] - 3)), 1, 0, 0), False)

    def test_dot(self):
        self.same(self.row(("dot", 1, 1), ("point", (0, 0)), 0, 0), [-1, 0])
        self.same(self.row(("dot", 1, 1), ("point", (0, 0)), 0, 1), [])
        self.same(self.row(("dot", 1, 2), ("point", (0, 0)), 0, 1), [-1, 0])
        self.same(self.row(("dot", 1, 16), ("point", (0, 0)), 0, 15, -20, 20), list(range(-4, 4)))

    def test_exactly_at_a_radius(self):
        # The centre (1, 1) of the pixel (0, 0) at the scale 1.
        for p, wanted in (((3, 1), True), ((4, 1), False), ((1, -1), True), ((2, 3), False), ((1, 1), True)):
            self.assertIs(covers(("dot", 1, 1), ("point", p), 1, 0, 0), wanted)
        for p, wanted in (((7, 9), True), ((9, 7), True), ((11, 1), True), ((8, 9), False), ((11, 2), False)):
            self.assertIs(covers(("dot", 1, 5), ("point", p), 1, 0, 0), wanted)

    def test_as_python_tells(self):
        source = random.Random(79)
        fits = {"point": [("dot", 1, 1), ("dot", 1, 4)], "line": [("stroke", 1, 1), ("stroke", 1, 5)],
                "area": [("fill", 1), ("stroke", 1, 1), ("stroke", 1, 2)]}
        for _ in range(400):
            shape = some_shape(source, 9)
            scale = source.choice((0, 0, 1, 1, 2, 3))
            for look in fits[shape[0]]:
                for px, py in [(source.randint(-3, 10), source.randint(-3, 10)) for _ in range(6)] + [(0, 0), (1, 0)]:
                    self.assertIs(covers(look, shape, scale, px, py), covers_by_python(look, shape, scale, px, py))

    def test_every_edge_near_some_pixels(self):
        for edge in all_segments(0, 3):
            for look in (("stroke", 1, 1), ("stroke", 1, 2), ("stroke", 1, 3)):
                for scale, px, py in ((0, 1, 1), (1, 0, 0), (0, 0, 2), (1, 1, 0)):
                    self.assertIs(covers(look, ("line", edge), scale, px, py),
                                  covers_by_python(look, ("line", edge), scale, px, py))

    def test_widths(self):
        source = random.Random(84)
        for _ in range(100):
            shape = some_shape(source, 9)
            word = "dot" if shape[0] == "point" else "stroke"
            px, py, scale = source.randint(-6, 12), source.randint(-6, 12), source.randint(0, 2)
            found = [covers((word, 1, width), shape, scale, px, py) for width in range(1, 17)]
            self.assertEqual(found, sorted(found))

    def test_last_pixels(self):
        for px in (-2048, 2047):
            for scale in (0, 6):
                self.assertIs(covers(("dot", 1, 16), SPOT, scale, px, px), False)
        self.assertIs(covers(("dot", 1, 16), ("point", (1000, -1000)), 6, 15, -16), True)
        self.assertIs(covers(("dot", 1, 16), ("point", (1000, -1000)), 0, 1015, -1000), True)
        self.assertIs(covers(("dot", 1, 16), ("point", (1000, -1000)), 0, 1016, -1000), False)

    def test_the_look_has_to_fit(self):
        for look, shape in ((("fill", 1), BEND), (("fill", 1), SPOT), (("stroke", 1, 1), SPOT), (("dot", 1, 1), BEND),
                            (("dot", 1, 1), FIELD)):
            self.bad("shape", covers, look, shape, 0, 0, 0)
            self.bad("shape", covers, look, shape, 9, None, None)

    def test_refused(self):
        self.refuses(covers, ("look", ("stroke", 1, 1), NO_LOOKS), ("shape", BEND, NO_SHAPES[::4] + NO_LINES[::4]),
                     ("scale", 0, NO_SCALES), ("px", 0, NO_PIXELS), ("py", 0, NO_PIXELS))


class PictureTest(Case):

    def test_examples(self):
        self.same(picture(EXAMPLE, EXAMPLE_STYLE, 2, (-1, 2, 8, 3)), (
            (0, 9, 9, 9, 9, 9, 9, 0), (9, 9, 9, 9, 9, 9, 9, 9), (9, 9, 5, 5, 5, 5, 9, 9)))
        self.same(picture(EXAMPLE, EXAMPLE_STYLE[:1], 2, (-1, 2, 8, 3)), (
            (0,) * 8, (0, 5, 5, 5, 5, 5, 5, 0), (0, 5, 5, 5, 5, 5, 5, 0)))
        self.same(owner_at(EXAMPLE, EXAMPLE_STYLE, 2, 2, 2), "field")
        self.same(colour_at(EXAMPLE, EXAMPLE_STYLE, 2, 9, 0), 9)

    def test_nothing(self):
        self.same(picture((), (), 0, (0, 0, 2, 1)), ((0, 0),))
        self.same(picture(EXAMPLE, (), 0, (0, 0, 1, 2)), ((0,), (0,)))
        self.same(owner_at((), (), 0, 0, 0), None)
        self.same(colour_at((), (), 0, 0, 0), 0)

    def test_the_highest_mark(self):
        field = ("area", (((0, 0), (8, 0), (8, 8), (0, 8)),))
        things = (("a", "k", field), ("b", "k", field))
        fills = [("k", 0, 6, 0, ("fill", colour)) for colour in (1, 2)]
        self.same((owner_at(things, tuple(fills), 0, 3, 3), colour_at(things, tuple(fills), 0, 3, 3)), ("b", 2))
        above = (("k", 0, 6, 1, ("fill", 1)), fills[1])
        self.same((owner_at(things, above, 0, 3, 3), colour_at(things, above, 0, 3, 3)), ("b", 1))
        other = (("a", "k", field), ("b", "m", field))
        self.same((owner_at(other, above, 0, 3, 3), colour_at(other, above, 0, 3, 3)), ("a", 1))

    def test_as_python_tells(self):
        source = random.Random(80)
        seen = {}
        for _ in range(200):
            things, style = some_map(source, source.choice((1, 2, 5)))
            self.assertTrue(is_map(things) and is_style(style))
            scale = source.choice((0, 1, 2, 3))
            window = (source.randint(-6, 4), source.randint(-6, 4), source.randint(1, 9), source.randint(1, 9))
            colours, owners = picture_by_python(things, style, scale, window)
            self.same(picture(things, style, scale, window), colours)
            for k, row in enumerate(owners):
                for at, name in enumerate(row):
                    place = (window[0] + at, window[1] + window[3] - 1 - k)
                    if source.random() < 0.1:
                        self.same(owner_at(things, style, scale, *place), name)
                        self.same(colour_at(things, style, scale, *place), colours[k][at])
                    seen[colours[k][at]] = True
        self.assertGreaterEqual(len(seen), 7)

    def test_parts(self):
        source = random.Random(86)
        for _ in range(40):
            things, style = some_map(source, 3)
            whole = picture(things, style, 1, (-9, -7, 30, 26))
            px, py, width, height = (source.randint(-9, 5), source.randint(-7, 5), source.randint(1, 15),
                                     source.randint(1, 13))
            part = tuple(row[px + 9:px + 9 + width] for row in whole[26 - (py + 7) - height:26 - (py + 7)])
            self.same(picture(things, style, 1, (px, py, width, height)), part)

    def test_moved_by_pixels(self):
        source = random.Random(82)
        for _ in range(40):
            things, style = some_map(source, 2)
            scale = source.randint(0, 3)
            dx, dy = source.randint(-7, 7), source.randint(-7, 7)
            side = 2 ** scale
            away = tuple((name, kind, each_point(shape, lambda p: (p[0] + side * dx, p[1] + side * dy)))
                         for name, kind, shape in things)
            self.same(picture(away, style, scale, (dx - 3, dy - 4, 12, 13)),
                      picture(things, style, scale, (-3, -4, 12, 13)))

    def test_doubled(self):
        source = random.Random(85)
        for _ in range(60):
            things, style = some_map(source, 3)
            double = tuple((name, kind, each_point(shape, lambda p: (2 * p[0], 2 * p[1])))
                           for name, kind, shape in things)
            all_scales = tuple((kind, 0, 6, order, look) for kind, _, _, order, look in style)
            scale = source.randint(0, 5)
            self.same(picture(double, all_scales, scale + 1, (-4, -4, 14, 12)),
                      picture(things, all_scales, scale, (-4, -4, 14, 12)))

    def test_without_what_owns_nothing(self):
        source = random.Random(87)
        left_out = 0
        for _ in range(60):
            things, style = some_map(source, 2)
            window = (-2, -2, 8, 8)
            owners = {name for row in picture_by_python(things, style, 1, window)[1] for name in row}
            less = tuple(thing for thing in things if thing[0] in owners)
            left_out += len(things) - len(less)
            self.same(picture(less, style, 1, window), picture(things, style, 1, window))
        self.assertGreater(left_out, 20)

    def test_borders_have_one_owner(self):
        source = random.Random(83)
        for _ in range(40):
            middle = (source.randint(1, 11), source.randint(1, 11))
            square = ((0, 0), (12, 0), (12, 12), (0, 12))
            parts = [ring_of((p, q, middle)) for p, q in zip(square, square[1:] + square[:1])]
            for px in range(-1, 7):
                for py in range(-1, 7):
                    found = [covers(("fill", 1), ("area", (part,)), 1, px, py) for part in parts]
                    self.assertEqual(sum(found), covers(("fill", 1), ("area", (square,)), 1, px, py))

    def test_fill_is_what_the_area_has(self):
        source = random.Random(84)
        for _ in range(150):
            shape = some_shape(source, 9)
            if shape[0] != "area":
                continue
            double = each_point(shape, lambda p: (2 * p[0], 2 * p[1]))
            for px in range(-1, 10):
                c, py = (2 * px + 1, 7), 3
                if side_in(area_of(double[1]), ((c[0], 1), (c[1], 1))) != "on":
                    self.assertIs(covers(("fill", 1), shape, 0, px, py), has_point(double, c))
                    self.assertIs(has(double, c), has_point(double, c))

    def test_windows(self):
        self.assertEqual(len(picture(EXAMPLE, EXAMPLE_STYLE, 0, (-2048, -2048, 48, 48))), 48)
        for window in ((2000, 2000, 48, 48), (2047, 2047, 1, 1), (-2048, -2048, 1, 1), (2047, 0, 1, 48)):
            rows = picture(EXAMPLE, EXAMPLE_STYLE, 0, window)
            self.same(rows, ((0,) * window[2],) * window[3])

    def test_bounds_of_pixels(self):
        for call in (colour_at, owner_at):
            for px, py in ((-2048, 2047), (2047, -2048)):
                call(EXAMPLE, EXAMPLE_STYLE, 6, px, py)
            self.bad("px", call, EXAMPLE, EXAMPLE_STYLE, 6, 2048, 2048)
            self.bad("py", call, EXAMPLE, EXAMPLE_STYLE, 6, 2047, 2048)

    def test_a_full_map(self):
        things = tuple((f"t{k:02d}", "k", ("area", (((16 * k, 0), (16 * k + 16, 0), (16 * k + 16, 16), (16 * k, 16)),)))
                       for k in range(60))
        style = tuple(("k", 0, 6, order, ("fill", order + 9)) for order in range(-6, 6))
        self.same(picture(things, style, 4, (0, 0, 48, 2)), ((0,) * 48, (14,) * 48))
        self.same(owner_at(things, style, 4, 59, 0), "t59")

    def test_refused(self):
        self.refuses(picture, ("map_things", EXAMPLE, NO_MAPS[::3]), ("style", STYLE, NO_STYLES[::3]),
                     ("scale", 0, NO_SCALES), ("window", (0, 0, 1, 1), NO_WINDOWS))
        for call in (colour_at, owner_at):
            self.refuses(call, ("map_things", EXAMPLE, NO_MAPS[::5]), ("style", STYLE, NO_STYLES[::5]),
                         ("scale", 0, NO_SCALES), ("px", 0, NO_PIXELS), ("py", 0, NO_PIXELS))


if __name__ == "__main__":
    unittest.main()
