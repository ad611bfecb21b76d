"""Point 8 and the interface: every name, its parameters, where it is defined; and that wrong arguments are named."""

import importlib
import inspect
import unittest

from tests.tools import Case, ODD_VALUES
from trueatlas.errors import BadValue

FUNCTIONS = {
    "fractions": "fraction(n, d); is_fraction(value); plus(first, second); minus(first, second); times(first, second); "
                 "over(first, second); less(first, second)",
    "sides": "is_point(value); is_segment(value); is_line(value); turn(a, b, c); lies_on(p, segment); "
             "foot_of(p, segment); gap_of(p, segment); nearest_edge(p, line)",
    "crossings": "meeting(first, second)",
    "rings": "is_ring(value); ring_of(points); size_of(points); place_in(p, ring); hull_of(points); "
             "is_hull(points, value)",
    "cleaning": "conflicts(segments); is_clean(segments); rounded(x, y); cut_once(segments); cleaned(segments); "
                "is_cleaning(segments, value); cleaned_lines(lines)",
    "planes": "is_plane(value); plane_of(segments); next_half(plane, half); cycle_list(plane); cycle_sizes(plane); "
              "part_list(plane)",
    "faces": "face_list(plane); face_left(plane, half); face_at(plane, point); parting_cycle(plane, first, second); "
             "border_of(plane, face); way_between(plane, first, second)",
    "areas": "is_area(value); area_of(rings); side_in(area, point); union(first, second); common(first, second); "
             "difference(first, second); either(first, second); normal(area); is_same(first, second); "
             "contains(first, second); overlap(first, second); size_of(area); rest_of(box, area)",
    "regions": "area_of_faces(plane, chosen); faces_within(plane, area)",
    "arcs": "arcs_of(lines); joined(arcs, way)",
    "simplifying": "worths(arc); can_go(arcs, told, threshold, number, place); simplified(arcs, told, threshold); "
                   "taken(arcs, told, threshold, steps); simplified_lines(lines, told, threshold)",
    "styles": "is_look(value); is_style(value); applying(style, thing, scale); marks(map_things, style, scale)",
    "painting": "covers(look, shape, scale, px, py); colour_at(map_things, style, scale, px, py); "
                "owner_at(map_things, style, scale, px, py); picture(map_things, style, scale, window)",
    "tiles": "is_tile(value); is_sheet(value); tile_picture(map_things, style, tile); joined(sheets); "
             "packed_sheet(sheet); unpacked_sheet(packed); reduced(first, second, third, fourth); "
             "reach(thing, style, scale); touched_tiles(old, new, style, scale); changed_tiles(old, new, style, scale)",
    "stores": "",
    "labels": "is_labels(value); excluding(labels); is_allowed(labels, placement); weight_of(labels, placement); "
              "candidates_at(point, width, height, gap); groups_of_conflict(labels)",
    "placing": "greedy(labels); best(labels); accepts(labels, placement, evidence)",
    "shapes": "is_shape(value); is_map(value); is_box(value); box_of(shape); has_point(shape, point); "
              "lies_in(shape, box); meets_box(shape, box); meet(first, second); square_distance(shape, point)",
    "asking": "at_point(map_things, point); in_box(map_things, box, word); meeting(map_things, shape); "
              "nearest(map_things, point, kind, count)",
    "trees": "tree_of(map_things); is_tree(map_things, tree); in_box_by(map_things, tree, box, word)",
    "changes": "is_change(value); made(map_things, changes); opposite(map_things, changes); touched(changes)",
    "journal": "",
    "maptexts": "map_text(map_things); read_map(text)",
}
CLASSES = {
    ("errors", "BadValue"): "__init__(self, name)",
    ("errors", "BadMap"): "__init__(self, where, why)",
    ("errors", "TooLarge"): "__init__(self, what)",
    ("errors", "TextError"): "__init__(self, line, column, words)",
    ("stores", "Store"): "__init__(self, map_things, style); picture_of(self, tile); put(self, map_things); "
                         "kept(self); drawn(self)",
    ("journal", "Journal"): "__init__(self, map_things); send(self, sent); map_at(self, version); last(self); "
                            "hands(self); revert(self, hand, version)",
}
# Those that take every value as their only argument.
JUDGES = ["is_fraction", "is_point", "is_segment", "is_line", "is_ring", "is_plane", "is_area", "is_look", "is_style",
          "is_tile", "is_sheet", "is_labels", "is_shape", "is_map", "is_box", "is_change"]


def signatures(text):
    """Pairs of a name and a tuple of parameters."""
    found = []
    for item in filter(None, text.split("; ")):
        name, rest = item.rstrip(")").split("(")
        found.append((name, tuple(filter(None, rest.split(", ")))))
    return found


class InterfaceTest(Case):

    def functions(self):
        for module, text in FUNCTIONS.items():
            loaded = importlib.import_module(f"trueatlas.{module}")
            for name, parameters in signatures(text):
                yield loaded, name, parameters

    def test_functions(self):
        for module, name, parameters in self.functions():
            function = vars(module)[name]
            self.assertTrue(inspect.isfunction(function), name)
            self.assertEqual(function.__module__, module.__name__)
            self.assertEqual(tuple(inspect.signature(function).parameters), parameters, name)

    def test_classes(self):
        for (module, name), text in CLASSES.items():
            kind = vars(importlib.import_module(f"trueatlas.{module}"))[name]
            self.assertEqual(kind.__module__, f"trueatlas.{module}")
            for method, parameters in signatures(text):
                self.assertEqual(tuple(inspect.signature(vars(kind)[method]).parameters), parameters, (name, method))

    def test_all_of_it_is_there(self):
        self.assertEqual(sum(1 for _ in self.functions()), 112)
        self.assertEqual(len(FUNCTIONS), 23)

    def test_judges_of_any_value(self):
        deep = ()
        for _ in range(20000):
            deep = (deep, deep)
        seen = 0
        for module, name, parameters in self.functions():
            if name in JUDGES:
                seen += 1
                for value in ODD_VALUES + [deep, (deep,) * 3]:
                    self.assertIn(vars(module)[name](value), (True, False))
        self.assertEqual(seen, len(JUDGES))

    def test_every_other_function_names_a_wrong_argument(self):
        for module, name, parameters in self.functions():
            if name in JUDGES:
                continue
            for wrong in (None, True, {}, 1.5, ((),)):
                with self.assertRaises(BadValue, msg=name) as caught:
                    vars(module)[name](*[wrong for _ in parameters])
                self.assertEqual(caught.exception.name, parameters[0], name)

    def test_nothing_else_in_the_package_is_run(self):
        for name in FUNCTIONS:
            importlib.import_module(f"trueatlas.{name}")
        package = importlib.import_module("trueatlas")
        self.assertTrue(package.__doc__)


if __name__ == "__main__":
    unittest.main()
