"""The examples of the document and of the interface, as they stand there, and those that it tells in words."""

import doctest
import unittest

from tests.tools import Case
from trueatlas.cleaning import rounded
from trueatlas.crossings import meeting
from trueatlas.errors import TextError
from trueatlas.maptexts import read_map
from trueatlas.shapes import has_point, square_distance
from trueatlas.sides import turn

EXAMPLES = r"""
>>> from trueatlas.faces import face_at, face_list, parting_cycle, way_between
>>> from trueatlas.planes import cycle_list, part_list, plane_of
>>> square = [((0, 0), (4, 0)), ((4, 0), (4, 4)), ((4, 4), (0, 4)), ((0, 4), (0, 0)), ((0, 0), (4, 4))]
>>> plane = plane_of(square)
>>> plane
(((0, 0), (0, 4), (4, 0), (4, 4)), ((0, 1), (0, 2), (0, 3), (1, 3), (2, 3)))
>>> cycle_list(plane)
[(0, 1, 3, 2), (0, 2, 3), (0, 3, 1)]
>>> face_list(plane)
[(None, (0,), -32), (1, (), 16), (2, (), 16)]
>>> face_at(plane, (3, 1)), face_at(plane, (2, 2)), face_at(plane, (9, 9))
(('face', 1), ('edge', 2), ('face', 0))
>>> parting_cycle(plane, (3, 1), (1, 3)), way_between(plane, 0, 2)
(1, [0, 2])

>>> from trueatlas.areas import area_of, difference, common, is_same, side_in, size_of, union
>>> one = area_of((((0, 0), (4, 0), (4, 4), (0, 4)),))
>>> two = area_of((((2, 2), (6, 2), (6, 6), (2, 6)),))
>>> common(one, two) == area_of((((2, 2), (4, 2), (4, 4), (2, 4)),))
True
>>> size_of(union(one, two))
(56, 1)
>>> difference(one, two)[0][:3]
(((0, 1), (0, 1)), ((4, 1), (0, 1)), ((4, 1), (2, 1)))
>>> side_in(one, ((7, 2), (1, 3))), side_in(one, ((4, 1), (1, 2))), side_in(one, ((9, 2), (1, 1)))
('in', 'on', 'out')
>>> star = area_of((((0, 0), (4, 0), (0, 3), (4, 3)),))
>>> union(star, ())
((((0, 1), (0, 1)), ((4, 1), (0, 1)), ((2, 1), (3, 2))), (((0, 1), (3, 1)), ((2, 1), (3, 2)), ((4, 1), (3, 1))))
>>> is_same(one, one + one + one), is_same(one + one, ())
(True, True)

>>> from trueatlas.crossings import meeting
>>> meeting(((0, 0), (3, 1)), ((0, 1), (2, 0)))
('cross', (6, 5), (2, 5))
>>> meeting(((0, 0), (4, 0)), ((2, 0), (2, 5)))
('touch', (2, 0))
>>> meeting(((0, 0), (4, 0)), ((1, 0), (6, 0)))
('overlap', (1, 0), (4, 0))
>>> meeting(((0, 0), (4, 0)), ((0, 1), (4, 1)))
('none',)

>>> from trueatlas.rings import hull_of, place_in, ring_of, size_of
>>> square = ring_of(((4, 4), (4, 0), (0, 0), (0, 4)))
>>> square, size_of(square)
(((0, 0), (4, 0), (4, 4), (0, 4)), 32)
>>> place_in((1, 1), square), place_in((4, 2), square), place_in((5, 0), square)
('in', 'on', 'out')
>>> hull_of(((0, 0), (2, 0), (4, 0), (4, 4), (2, 2), (0, 4)))
((0, 0), (4, 0), (4, 4), (0, 4))

>>> from trueatlas.cleaning import cleaned, cleaned_lines, conflicts, cut_once, is_clean, is_cleaning, rounded
>>> first = ((0, 0), (3, 1))
>>> second = ((0, 1), (2, 0))
>>> conflicts((first, second)), rounded((6, 5), (2, 5))
([(0, 1)], (1, 0))
>>> cut_once((first, second))
(((0, 0), (1, 0)), ((0, 1), (1, 0)), ((1, 0), (2, 0)), ((1, 0), (3, 1)))
>>> cleaned((second, first))
((((0, 0), (1, 0)), ((0, 1), (1, 0)), ((1, 0), (2, 0)), ((1, 0), (3, 1))), (((0, 1), (1, 0), (2, 0)), ((0, 0), (1, 0), (3, 1))), 1)
>>> is_cleaning((second, first), cleaned((second, first)))
True
>>> is_clean((first, second))
False
>>> cleaned_lines((((4, 0), (0, 0), (0, 4)), ((2, -1), (2, 1))))
((((0, 0), (0, 4)), ((0, 0), (2, 0)), ((2, -1), (2, 0)), ((2, 0), (2, 1)), ((2, 0), (4, 0))), [((4, 0), (2, 0), (0, 0), (0, 4)), ((2, -1), (2, 0), (2, 1))])

>>> from trueatlas.arcs import arcs_of, joined
>>> from trueatlas.simplifying import simplified, taken, worths
>>> line = ((0, 0), (2, 1), (4, 0), (6, 3), (8, 0))
>>> worths(line)
[4, 8, 12]
>>> simplified([line], (), 5)
([((0, 0), (4, 0), (6, 3), (8, 0))], [(0, 1)])
>>> simplified([line], ((2, 0),), 5)[1]
[]
>>> taken([line], (), 5, [(0, 2)]) is None
True
>>> arcs_of([((0, 0), (1, 0), (2, 0), (3, 0)), ((9, 9), (2, 0), (1, 0), (0, 5))])[1]
[((0, True), (2, True), (3, True)), ((4, False), (2, False), (1, False))]
>>> joined([((0, 0), (1, 0)), ((5, 5), (1, 0))], ((0, True), (1, False)))
((0, 0), (1, 0), (5, 5))

>>> from trueatlas.painting import colour_at, covers, owner_at, picture
>>> from trueatlas.styles import applying, marks
>>> field = ("field", "farm", ("area", (((0, 0), (24, 0), (24, 16), (0, 16)),)))
>>> road = ("road", "way", ("line", ((0, 2), (40, 2))))
>>> style = (("farm", 0, 6, 0, ("fill", 5)), ("", 0, 2, 1, ("stroke", 9, 1)))
>>> marks((field, road), style, 2)
[(0, 0, 'field'), (1, 1, 'field'), (1, 1, 'road')]
>>> applying(style, road, 3)
[]
>>> picture((field, road), style, 2, (-1, 2, 8, 3))
((0, 9, 9, 9, 9, 9, 9, 0), (9, 9, 9, 9, 9, 9, 9, 9), (9, 9, 5, 5, 5, 5, 9, 9))
>>> picture((field, road), style[:1], 2, (-1, 2, 8, 3))
((0, 0, 0, 0, 0, 0, 0, 0), (0, 5, 5, 5, 5, 5, 5, 0), (0, 5, 5, 5, 5, 5, 5, 0))
>>> owner_at((field, road), style, 2, 2, 2), colour_at((field, road), style, 2, 9, 0)
('field', 9)
>>> covers(("dot", 1, 1), ("point", (2, 2)), 2, 0, 1)
True

>>> from trueatlas.stores import Store
>>> from trueatlas.tiles import changed_tiles, packed_sheet, reach, reduced, tile_picture, touched_tiles
>>> pond = ("pond", "water", ("area", (((0, 0), (32, 0), (32, 16), (0, 16)),)))
>>> style = (("water", 0, 6, 0, ("fill", 12)),)
>>> sheet = tile_picture((pond,), style, (2, 0, 0))
>>> sheet[11:13]
((0, 0, 0, 0, 0, 0, 0, 0, 0, 0, 0, 0, 0, 0, 0, 0), (12, 12, 12, 12, 12, 12, 12, 12, 0, 0, 0, 0, 0, 0, 0, 0))
>>> packed_sheet(sheet)[:4]
((192, 0), (8, 12), (8, 0), (8, 12))
>>> reach(pond, style, 0)
[(0, 0, 0), (0, 0, 1), (0, 1, 0), (0, 1, 1), (0, 2, 0), (0, 2, 1)]
>>> moved = ("pond", "water", ("area", (((0, 0), (32, 0), (32, 15), (0, 15)),)))
>>> changed_tiles((pond,), (moved,), style, 0)
[(0, 0, 0), (0, 1, 0)]
>>> store = Store((pond,), style)
>>> store.picture_of((0, 1, 0))[0][:2], store.drawn(), store.put((moved,)), store.picture_of((0, 1, 0))[0][:2], store.drawn()
((12, 12), 1, 1, (0, 0), 2)

>>> from trueatlas.labels import candidates_at, excluding, weight_of
>>> from trueatlas.placing import accepts, best, greedy
>>> labels = (("east", 4, ((6, 0, 10, 2),)), ("middle", 5, ((3, 0, 7, 2),)), ("west", 3, ((0, 0, 4, 2),)))
>>> excluding(labels)
[((0, 0), (1, 0)), ((1, 0), (2, 0))]
>>> greedy(labels), weight_of(labels, greedy(labels))
((None, 0, None), 5)
>>> placement, evidence = best(labels)
>>> placement, accepts(labels, placement, evidence)
((0, None, 0), True)
>>> accepts(labels, (0, None, 0), ("cover", ((((0, 0), (1, 0)), 4), (((1, 0), (2, 0)), 3))))
True
>>> accepts(labels, (None, 0, None), ("cover", ((((0, 0), (1, 0)), 4), (((1, 0), (2, 0)), 3))))
False
>>> candidates_at((0, 0), 3, 2, 1)
((1, 1, 4, 3), (-4, 1, -1, 3), (-4, -3, -1, -1), (1, -3, 4, -1))

>>> from trueatlas.asking import at_point, in_box, nearest
>>> from trueatlas.trees import in_box_by, tree_of
>>> square = ("square", "field", ("area", (((0, 0), (4, 0), (4, 4), (0, 4)),)))
>>> road = ("road", "way", ("line", ((6, 0), (6, 8))))
>>> things = (road, square)
>>> at_point(things, (4, 2))
['square']
>>> in_box(things, (4, 1, 6, 2), "meets"), in_box(things, (0, 0, 5, 5), "in")
(['road', 'square'], ['square'])
>>> nearest(things, (4, 2), None, 2)
[('square', (0, 1)), ('road', (4, 1))]
>>> nearest(things, (9, 12), "way", 5)
[('road', (25, 1))]
>>> tree_of(things)
((0, 0, 6, 8), ('road', 'square'), ())
>>> in_box_by(things, tree_of(things), (7, 0, 9, 9), "meets")
([], 1)

>>> from trueatlas.journal import Journal
>>> from trueatlas.maptexts import map_text, read_map
>>> well = ("well", "spring", ("point", (3, 4)))
>>> journal = Journal((well,))
>>> journal.send(("ann", 0, (("shift", "well", 1, 0),)))
1
>>> journal.send(("bob", 0, (("add", ("oak", "tree", ("point", (0, 0)))),)))
2
>>> journal.send(("cid", 0, (("remove", "well"),))) is None
True
>>> journal.map_at(2)
(('oak', 'tree', ('point', (0, 0))), ('well', 'spring', ('point', (4, 4))))
>>> journal.revert("ann", 1)
3
>>> map_text(journal.map_at(3))
'point oak tree 0 0\npoint well spring 3 4\n'
>>> read_map("line road way 0 0 5 5\n")
(('road', 'way', ('line', ((0, 0), (5, 5)))),)
"""


class ExamplesTest(Case):

    def test_as_they_stand(self):
        test = doctest.DocTestParser().get_doctest(EXAMPLES, {}, "examples", None, 0)
        self.assertGreater(len(test.examples), 90)
        found = doctest.DocTestRunner(verbose=False).run(test)
        self.assertEqual(found.failed, 0)

    def test_the_last_one(self):
        with self.assertRaises(TextError) as caught:
            read_map("point a b 1 02\n")
        error = caught.exception
        self.same((error.line, error.column, error.words), (1, 13, "a number is expected"))

    def test_point_24(self):
        self.same(turn((0, 0), (4, 0), (1, 2)), 8)
        self.same(meeting(((0, 0), (3, 1)), ((0, 1), (2, 0))), ("cross", (6, 5), (2, 5)))

    def test_point_36(self):
        self.same(rounded((6, 5), (2, 5)), (1, 0))

    def test_point_122(self):
        square, road = ("area", (((0, 0), (4, 0), (4, 4), (0, 4)),)), ("line", ((6, 0), (6, 8)))
        self.same((has_point(square, (4, 2)), square_distance(road, (4, 2))), (True, (4, 1)))
        self.same((square_distance(road, (9, 12)), square_distance(square, (9, 12))), ((9 + 16, 1), (25 + 64, 1)))


if __name__ == "__main__":
    unittest.main()
