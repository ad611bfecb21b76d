"""Points 75 to 78 and 87: looks, styles, which rules apply, and marks."""

import random
import unittest

from tests.test_shapes import FIELD, HOLED, NO_MAPS, NO_NAMES, NO_THINGS, ROAD, SPOT, WELL, some_shape
from tests.tools import Case, ODD_VALUES, without
from trueatlas.shapes import is_map
from trueatlas.styles import applying, is_look, is_style, marks

FILL, STROKE, DOT = ("fill", 5), ("stroke", 9, 1), ("dot", 63, 16)
RULE = ("way", 0, 6, 0, STROKE)
FARM = ("field", "farm", FIELD)
STYLE = (("farm", 0, 6, 0, FILL), ("", 0, 2, 1, STROKE), ("spring", 3, 5, -8, DOT), ("", 2, 2, 1, DOT))
NO_SCALES = [-1, 7, 10 ** 20, True, False, None, "0", "", 1.0, (), (1,), [1], b"1"]
NO_LOOKS = ODD_VALUES + [
    ("fill", 0), ("fill", 64), ("fill", -1), ("fill", True), ("fill", 5.0), ("fill", "5"), ("fill", None), ("fill",),
    ("fill", 5, 1), ["fill", 5], ("Fill", 5), ("", 5), (5, "fill"), (None, 5), ("fills", 5), (b"fill", 5),
    ("stroke", 0, 1), ("stroke", 64, 1), ("stroke", 5), ("stroke", 5, 0), ("stroke", 5, 17), ("stroke", 5, True),
    ("stroke", 5, 1, 1), ("stroke", 5, 1.0), ["stroke", 5, 1], ("stroke", True, 1), ("stroke", 5, None),
    ("dot", 0, 1), ("dot", 64, 1), ("dot", 5), ("dot", 5, 0), ("dot", 5, 17), ("dot", 5, False), ("dot", 5, 1, 1),
    ("dot", 5, -1), ["dot", 5, 1], ("circle", 5, 1), (("dot",), 5, 1), (["dot"], 5, 1), ({}, 5),
]
NO_RULES = ODD_VALUES + [(value, 0, 6, 0, FILL) for value in NO_NAMES if value != ""] + [
    ("way", value, 6, 0, FILL) for value in NO_SCALES] + [("way", 0, value, 0, FILL) for value in NO_SCALES] + [
    ("way", 0, 6, 0, value) for value in NO_LOOKS] + [
    ("way", 0, 6, value, FILL) for value in (-9, 9, True, None, "0", 0.0, (0,), 10 ** 20)] + [
    ("way", 3, 2, 0, FILL), ("way", 0, 6, 0), ("way", 0, 6, 0, FILL, 0), list(RULE), ("way", 0, 6, FILL, 0)]
NO_STYLES = without(()) + [(value,) for value in NO_RULES] + [
    RULE, [RULE], (RULE,) * 13, (RULE, None), (None, RULE), (RULE, FILL), (list(RULE),)]


class FormTest(Case):

    def test_looks(self):
        for value in (FILL, STROKE, DOT, ("fill", 1), ("fill", 63), ("stroke", 1, 16), ("stroke", 63, 1),
                      ("dot", 1, 1), ("dot", 63, 16)):
            self.assertIs(is_look(value), True, value)
        for value in NO_LOOKS:
            self.assertIs(is_look(value), False, value)

    def test_styles(self):
        for value in ((), (RULE,), STYLE, (RULE,) * 12, (("", 0, 0, -8, FILL),), (("a" * 12, 6, 6, 8, DOT),),
                      (("", 0, 6, 8, DOT), ("", 3, 3, -8, DOT))):
            self.assertIs(is_style(value), True, value)
        for value in NO_STYLES:
            self.assertIs(is_style(value), False, value)


class ApplyingTest(Case):

    def test_examples(self):
        style = (("farm", 0, 6, 0, ("fill", 5)), ("", 0, 2, 1, ("stroke", 9, 1)))
        self.same(applying(style, ROAD, 3), [])
        self.same(applying(style, ROAD, 2), [1])
        self.same(applying(style, FARM, 2), [0, 1])
        self.same(applying(style, FARM, 3), [0])
        self.same(applying((), FARM, 3), [])

    def test_scales(self):
        style = (("", 2, 4, 0, FILL), ("", 3, 3, 0, FILL), ("", 0, 6, 0, FILL))
        self.same([applying(style, FARM, scale) for scale in range(7)],
                  [[2], [2], [0, 2], [0, 1, 2], [0, 2], [2], [2]])

    def test_looks_that_fit(self):
        style = (("", 0, 6, 0, FILL), ("", 0, 6, 0, STROKE), ("", 0, 6, 0, DOT))
        self.same(applying(style, FARM, 0), [0, 1])
        self.same(applying(style, ROAD, 0), [1])
        self.same(applying(style, WELL, 0), [2])

    def test_kinds(self):
        style = (("way", 0, 6, 0, STROKE), ("farm", 0, 6, 0, STROKE), ("", 0, 6, 0, STROKE), ("road", 0, 6, 0, STROKE))
        self.same(applying(style, ROAD, 6), [0, 2])
        self.same(applying(style, FARM, 6), [1, 2])

    def test_a_new_list(self):
        applying(STYLE, FARM, 0).clear()
        self.same(applying(STYLE, FARM, 0), [0, 1])

    def test_refused(self):
        self.refuses(applying, ("style", STYLE, NO_STYLES[::2]), ("thing", FARM, NO_THINGS[::2]),
                     ("scale", 0, NO_SCALES))


class MarksTest(Case):

    def test_examples(self):
        style = (("farm", 0, 6, 0, ("fill", 5)), ("", 0, 2, 1, ("stroke", 9, 1)))
        self.same(marks((FARM, ROAD), style, 2), [(0, 0, "field"), (1, 1, "field"), (1, 1, "road")])
        self.same(marks((FARM, ROAD), style, 3), [(0, 0, "field")])
        self.same(marks((), style, 2), [])
        self.same(marks((FARM, ROAD), (), 2), [])

    def test_order(self):
        style = (("", 0, 6, 8, STROKE), ("", 0, 6, -8, STROKE), ("", 0, 6, -8, FILL), ("", 0, 6, 0, DOT))
        self.same(marks((FARM, ROAD, WELL), style, 0), [
            (-8, 1, "field"), (-8, 1, "road"), (-8, 2, "field"), (0, 3, "well"), (8, 0, "field"), (8, 0, "road")])

    def test_as_applying_tells(self):
        source = random.Random(78)
        for _ in range(60):
            things = tuple((f"t{k}", source.choice(("a", "b")), some_shape(source, 9)) for k in range(5))
            self.assertIs(is_map(things), True)
            style = tuple((source.choice(("", "a", "b")), *sorted(source.choices(range(7), k=2)),
                           source.randint(-1, 1), source.choice((FILL, STROKE, DOT))) for _ in range(6))
            scale = source.randint(0, 6)
            wanted = [(style[index][3], index, thing[0])
                      for thing in things for index in applying(style, thing, scale)]
            self.same(marks(things, style, scale), sorted(wanted))
            for thing in things:
                fitting = [index for index, (kind, least, most, _, look) in enumerate(style)
                           if kind in ("", thing[1]) and least <= scale <= most
                           and (look[0], thing[2][0]) in (("fill", "area"), ("stroke", "area"), ("stroke", "line"),
                                                          ("dot", "point"))]
                self.same(applying(style, thing, scale), fitting)

    def test_sixty_things_and_twelve_rules(self):
        things = tuple((f"t{k:02d}", "k", SPOT) for k in range(60))
        self.assertEqual(len(marks(things, (("", 0, 6, 0, DOT),) * 12, 6)), 720)
        self.bad("map_things", marks, things + (("u", "k", SPOT),), (), 0)
        self.bad("style", marks, things, (("", 0, 6, 0, DOT),) * 13, 0)

    def test_a_new_list(self):
        marks((FARM,), STYLE, 0).clear()
        self.same(marks((FARM,), STYLE, 0), [(0, 0, "field"), (1, 1, "field")])

    def test_refused(self):
        self.refuses(marks, ("map_things", (("a", "k", HOLED),), NO_MAPS[::2]), ("style", STYLE, NO_STYLES[::2]),
                     ("scale", 0, NO_SCALES))


if __name__ == "__main__":
    unittest.main()
