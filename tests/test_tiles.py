"""Points 89 to 94 and 96 to 99: tiles, sheets, what a change can touch."""

import itertools
import random
import unittest
from collections import Counter

from tests.test_painting import EXAMPLE, NO_PIXELS, covers_by_python, each_point, some_map
from tests.test_shapes import FIELD, NO_MAPS, NO_THINGS, SPOT, corners
from tests.test_styles import NO_SCALES, NO_STYLES
from tests.tools import Case, ODD_VALUES
from trueatlas.errors import TooLarge
from trueatlas.painting import picture
from trueatlas.styles import applying
from trueatlas.tiles import (changed_tiles, is_sheet, is_tile, joined, packed_sheet, reach, reduced, tile_picture,
                             touched_tiles, unpacked_sheet)

POND = ("pond", "water", ("area", (((0, 0), (32, 0), (32, 16), (0, 16)),)))
MOVED = ("pond", "water", ("area", (((0, 0), (32, 0), (32, 15), (0, 15)),)))
STYLE = (("water", 0, 6, 0, ("fill", 12)),)
DOTS = (("", 0, 6, 0, ("dot", 3, 1)),)


def plain(colour):
    """A sheet of one colour."""
    return ((colour,) * 16,) * 16


def some_sheet(source, colours):
    return tuple(tuple(source.choice(colours) for _ in range(16)) for _ in range(16))


SHEET = tuple(tuple((3 * k + n) % 64 for n in range(16)) for k in range(16))
NO_COLOURS = [-1, 64, True, None, "1", 1.0, (1,)]
NO_SHEETS = ODD_VALUES + [SHEET[:15], SHEET + SHEET[:1], list(SHEET), SHEET[:15] + (list(SHEET[15]),),
                          SHEET[:15] + (SHEET[15][:15],), SHEET[:15] + (SHEET[15] + (1,),), SHEET[:15] + (None,)] + [
    SHEET[:15] + (SHEET[15][:15] + (value,),) for value in NO_COLOURS]
NO_TILES = ODD_VALUES + [(value, 0, 0) for value in NO_SCALES] + [(0, value, 0) for value in NO_PIXELS] + [
    (0, 0, value) for value in NO_PIXELS] + [
    (0, 128, 0), (0, -129, 0), (0, 0, 128), (0, 0, -129), (0, 0), (0, 0, 0, 0), [0, 0, 0], ((0, 0, 0),)]
NO_JOINED = ODD_VALUES + [
    [], [[]], [SHEET], [[SHEET], []], ((SHEET,),), [(SHEET,)], [[SHEET], [SHEET, SHEET]], [[SHEET, SHEET], [SHEET]],
    [[SHEET]] * 5, [[SHEET] * 5], [[SHEET], None], [[None]], [[SHEET, None]]] + [[[value]] for value in NO_SHEETS]
PACKED = ((250, 1), (6, 2))
NO_PACKED = ODD_VALUES + [
    [(256, 1)], ((255, 1),), ((257, 1),), ((250, 1), (6, 1)), ((250, 1), (7, 2)), ((250, 1), (0, 3), (6, 2)),
    ((250, 1), (-6, 3), (12, 2)), ((250, 1), [6, 2]), ((250, 1), (6, 2, 0)), ((250, 1), (6,)), ((256, 1), None),
    ((256, 1), (0, 2)), ((255, 1), (True, 2)), (256, 1), ((256.0, 1),), (("256", 1),),
] + [((256, value),) for value in NO_COLOURS]


def count_of(block):
    """The colour that most of a block have, the first one of several."""
    counts = Counter(block)
    return next(colour for colour in block if counts[colour] == max(counts.values()))


def tiles_near(things, style, scale):
    """The tiles in the reach of some things, by the words of point 93."""
    found = set()
    for thing in things:
        rules = applying(style, thing, scale)
        if not rules:
            continue
        side = 2 ** scale
        margin = max(0 if look[0] == "fill" else side * look[2] for look in (style[index][4] for index in rules))
        points = corners(thing[2])
        xs, ys = [x for x, _ in points], [y for _, y in points]
        for column in range((min(xs) - margin) // (16 * side), (max(xs) + margin) // (16 * side) + 1):
            for row in range((min(ys) - margin) // (16 * side), (max(ys) + margin) // (16 * side) + 1):
                if -128 <= column <= 127 and -128 <= row <= 127:
                    found.add((scale, column, row))
    return sorted(found)


def some_changes(seed, many):
    """Two maps that have much in common, a style and a scale."""
    source = random.Random(seed)
    for _ in range(many):
        things, style = some_map(source, source.choice((1, 2, 4)), 5)
        new = []
        for name, kind, shape in things:
            what = source.random()
            if what < 0.15:
                continue
            if what < 0.3:
                kind = "b" if kind == "a" else "a"
            elif what < 0.5:
                shape = each_point(shape, lambda p: (p[0] + 7, p[1] - 3))
            new.append((name, kind, shape))
        if source.random() < 0.3:
            new.append(("z", "a", SPOT))
        yield things, tuple(new), style, source.choice((0, 0, 1, 2, 3))


class FormTest(Case):

    def test_tiles(self):
        for value in ((0, 0, 0), (6, 127, 127), (6, -128, -128), (0, -128, 127)):
            self.assertIs(is_tile(value), True, value)
        for value in NO_TILES:
            self.assertIs(is_tile(value), False, value)

    def test_sheets(self):
        for value in (SHEET, plain(0), plain(63)):
            self.assertIs(is_sheet(value), True, value)
        for value in NO_SHEETS:
            self.assertIs(is_sheet(value), False, value)


class TilePictureTest(Case):

    def test_example(self):
        sheet = tile_picture((POND,), STYLE, (2, 0, 0))
        self.same(sheet[11:13], ((0,) * 16, (12,) * 8 + (0,) * 8))
        self.assertIs(is_sheet(sheet), True)

    def test_as_the_picture(self):
        source = random.Random(89)
        for _ in range(40):
            things, style = some_map(source, 5)
            tile = (source.randint(0, 3), source.randint(-2, 2), source.randint(-2, 2))
            self.same(tile_picture(things, style, tile),
                      picture(things, style, tile[0], (16 * tile[1], 16 * tile[2], 16, 16)))

    def test_the_last_tiles(self):
        for column, row in itertools.product((-128, 127), repeat=2):
            self.same(tile_picture((POND,), STYLE, (6, column, row)), plain(0))
        far = (("far", "water", ("point", (-1000, 1000))),)
        sheet = tile_picture(far, DOTS, (6, -1, 0))
        self.assertEqual(sum(row.count(3) for row in sheet), 1)

    def test_refused(self):
        self.refuses(tile_picture, ("map_things", EXAMPLE, NO_MAPS[::4]), ("style", STYLE, NO_STYLES[::4]),
                     ("tile", (0, 0, 0), NO_TILES))


class JoinedTest(Case):

    def test_some(self):
        self.same(joined([[SHEET]]), SHEET)
        self.same(joined([[plain(1), plain(2)]]), ((1,) * 16 + (2,) * 16,) * 16)
        self.same(joined([[plain(1)], [plain(2)]]), ((1,) * 16,) * 16 + ((2,) * 16,) * 16)
        self.assertEqual((len(joined([[SHEET] * 4] * 3)), len(joined([[SHEET] * 4] * 3)[0])), (48, 64))
        self.assertEqual(len(joined([[SHEET]] * 4)), 64)

    def test_no_seams(self):
        source = random.Random(90)
        for _ in range(20):
            things, style = some_map(source, 5)
            scale, column, row = source.randint(0, 2), source.randint(-2, 1), source.randint(-2, 1)
            wide, high = source.randint(1, 3), source.randint(1, 3)
            sheets = [[tile_picture(things, style, (scale, column + k, row + n)) for k in range(wide)]
                      for n in range(high - 1, -1, -1)]
            self.same(joined(sheets), picture(things, style, scale, (16 * column, 16 * row, 16 * wide, 16 * high)))

    def test_not_changed(self):
        sheets = [[SHEET, plain(3)]]
        joined(sheets)
        self.assertEqual(sheets, [[SHEET, plain(3)]])

    def test_refused(self):
        self.refuses(joined, ("sheets", [[SHEET]], NO_JOINED))


class PackedTest(Case):

    def test_some(self):
        self.same(packed_sheet(plain(0)), ((256, 0),))
        self.same(packed_sheet(tile_picture((POND,), STYLE, (2, 0, 0)))[:4], ((192, 0), (8, 12), (8, 0), (8, 12)))
        chess = tuple(tuple((k + n) % 2 for n in range(16)) for k in range(16))
        self.assertEqual(len(packed_sheet(chess)), 256 - 15)
        stripes = tuple((7, 8) * 8 for _ in range(16))
        self.same(packed_sheet(stripes), ((1, 7), (1, 8)) * 128)

    def test_over_the_end_of_a_row(self):
        sheet = ((1,) * 10 + (2,) * 6,) + ((2,) * 16,) * 2 + ((2,) * 3 + (5,) * 13,) + ((0,) * 16,) * 12
        packed = ((10, 1), (6 + 32 + 3, 2), (13, 5), (192, 0))
        self.same(packed_sheet(sheet), packed)
        self.same(unpacked_sheet(packed), sheet)

    def test_there_and_back(self):
        source = random.Random(91)
        for _ in range(60):
            sheet = some_sheet(source, range(source.choice((1, 2, 3, 64))))
            packed = packed_sheet(sheet)
            self.same(unpacked_sheet(packed), sheet)
            self.assertEqual(sum(count for count, _ in packed), 256)
            self.assertTrue(all(first[1] != second[1] for first, second in zip(packed, packed[1:])))
            self.assertTrue(all(count >= 1 for count, _ in packed))

    def test_packed(self):
        self.same(unpacked_sheet(PACKED), ((1,) * 16,) * 15 + ((1,) * 10 + (2,) * 6,))

    def test_refused(self):
        self.refuses(packed_sheet, ("sheet", SHEET, NO_SHEETS))
        self.refuses(unpacked_sheet, ("packed", PACKED, NO_PACKED))


class ReducedTest(Case):

    def block(self, *colours):
        """The colour of a block with these colours, above left, above right, below left and below right."""
        a, b, c, d = colours
        sheet = ((a, b) * 8, (c, d) * 8) * 8
        found = reduced(sheet, sheet, sheet, sheet)
        self.assertEqual(found, plain(found[0][0]))
        return found[0][0]

    def test_blocks(self):
        for colours, wanted in (((5, 5, 5, 5), 5), ((1, 2, 3, 4), 1), ((4, 3, 2, 1), 4), ((1, 2, 2, 3), 2),
                                ((1, 2, 3, 3), 3), ((1, 1, 2, 2), 1), ((2, 1, 1, 2), 2), ((1, 2, 1, 2), 1),
                                ((0, 1, 2, 2), 2), ((0, 0, 1, 1), 0), ((9, 1, 1, 1), 1), ((3, 2, 3, 1), 3)):
            self.assertEqual(self.block(*colours), wanted, colours)

    def test_all_blocks(self):
        for colours in itertools.product(range(4), repeat=4):
            self.assertEqual(self.block(*colours), count_of(colours))

    def test_where_the_sheets_lie(self):
        found = reduced(plain(1), plain(2), plain(3), plain(4))
        self.same(found, ((1,) * 8 + (2,) * 8,) * 8 + ((3,) * 8 + (4,) * 8,) * 8)

    def test_as_blocks_tell(self):
        source = random.Random(92)
        for _ in range(20):
            sheets = [some_sheet(source, range(source.choice((2, 3, 5)))) for _ in range(4)]
            rows = joined([sheets[:2], sheets[2:]])
            wanted = tuple(
                tuple(count_of((rows[j][i], rows[j][i + 1], rows[j + 1][i], rows[j + 1][i + 1]))
                      for i in range(0, 32, 2)) for j in range(0, 32, 2))
            self.same(reduced(*sheets), wanted)

    def test_refused(self):
        self.refuses(reduced, ("first", SHEET, NO_SHEETS), ("second", plain(1), NO_SHEETS),
                     ("third", SHEET, NO_SHEETS), ("fourth", plain(0), NO_SHEETS))


class ReachTest(Case):

    def test_example(self):
        self.same(reach(POND, STYLE, 0), [(0, 0, 0), (0, 0, 1), (0, 1, 0), (0, 1, 1), (0, 2, 0), (0, 2, 1)])

    def test_no_rule(self):
        self.same(reach(POND, (), 0), [])
        self.same(reach(POND, (("", 0, 6, 0, ("dot", 1, 1)), ("ice", 0, 6, 0, ("fill", 1))), 0), [])
        self.same(reach(POND, (("water", 1, 6, 0, ("fill", 1)),), 0), [])

    def test_margins(self):
        well = ("well", "spring", ("point", (14, 2)))
        self.same(reach(well, DOTS, 0), [(0, 0, 0)])
        self.same(reach(well, (("", 0, 6, 0, ("dot", 3, 2)),), 0), [(0, 0, 0), (0, 1, 0)])
        self.same(reach(well, (("", 0, 6, 0, ("dot", 3, 3)),), 0), [(0, 0, -1), (0, 0, 0), (0, 1, -1), (0, 1, 0)])
        self.same(reach(well, (("", 0, 6, 0, ("dot", 3, 1)), ("", 0, 6, 0, ("dot", 3, 2))), 0), [(0, 0, 0), (0, 1, 0)])
        self.same(reach(well, (("", 0, 6, 0, ("dot", 3, 2)),), 1), [(1, 0, -1), (1, 0, 0)])
        road = ("road", "way", ("line", ((14, 14), (15, 8))))
        self.same(reach(road, (("", 0, 6, 0, ("stroke", 3, 1)),), 0), [(0, 0, 0), (0, 1, 0)])
        self.same(reach(road, (("", 0, 6, 0, ("stroke", 3, 1)), ("", 0, 6, 0, ("fill", 3))), 0), [(0, 0, 0), (0, 1, 0)])

    def test_the_whole_map(self):
        wide = ("wide", "k", ("area", (((-1000, -1000), (1000, -1000), (1000, 1000), (-1000, 1000)),)))
        strokes = (("", 0, 6, 0, ("stroke", 1, 16)),)
        for scale, least, most in ((0, -64, 63), (1, -33, 32), (6, -2, 1)):
            found = reach(wide, strokes, scale)
            self.same(found, [(scale, column, row) for column in range(least, most + 1)
                              for row in range(least, most + 1)])

    def test_as_the_document_tells(self):
        source = random.Random(93)
        for _ in range(60):
            things, style = some_map(source, 9)
            for thing in things:
                for scale in (0, 1, 2, 6):
                    self.same(reach(thing, style, scale), tiles_near([thing], style, scale))

    def test_no_other_tile_is_covered(self):
        source = random.Random(94)
        for _ in range(40):
            things, style = some_map(source, 3)
            for thing in things:
                near = reach(thing, style, 0)
                for index in applying(style, thing, 0):
                    for px, py in [(source.randint(-20, 50), source.randint(-20, 50)) for _ in range(60)]:
                        if covers_by_python(style[index][4], thing[2], 0, px, py):
                            self.assertIn((0, px // 16, py // 16), near)

    def test_a_new_list(self):
        reach(POND, STYLE, 0).clear()
        self.assertEqual(len(reach(POND, STYLE, 0)), 6)

    def test_refused(self):
        self.refuses(reach, ("thing", POND, NO_THINGS[::3]), ("style", STYLE, NO_STYLES[::3]), ("scale", 0, NO_SCALES))


class ChangesTest(Case):

    def test_example(self):
        self.same(changed_tiles((POND,), (MOVED,), STYLE, 0), [(0, 0, 0), (0, 1, 0)])
        self.same(touched_tiles((POND,), (MOVED,), STYLE, 0), reach(POND, STYLE, 0))

    def test_no_change(self):
        for call in (touched_tiles, changed_tiles):
            self.same(call((POND,), (POND,), STYLE, 0), [])
            self.same(call((), (), STYLE, 0), [])
            self.same(call((POND,), (), (), 0), [])

    def test_a_change_of_a_kind_alone(self):
        ice = ("pond", "ice", POND[2])
        self.same(touched_tiles((POND,), (ice,), STYLE, 0), reach(POND, STYLE, 0))
        self.same(touched_tiles((ice,), (POND,), STYLE, 0), reach(POND, STYLE, 0))
        self.same(changed_tiles((POND,), (ice,), STYLE, 0), [(0, 0, 0), (0, 1, 0)])
        both = STYLE + (("ice", 0, 6, 1, ("fill", 12)),)
        self.same(touched_tiles((POND,), (ice,), both, 0), reach(POND, STYLE, 0))
        self.same(changed_tiles((POND,), (ice,), both, 0), [])

    def test_another_name(self):
        lake = ("lake", "water", POND[2])
        self.same(touched_tiles((POND,), (lake,), STYLE, 0), reach(POND, STYLE, 0))
        self.same(changed_tiles((POND,), (lake,), STYLE, 0), [])

    def test_sixty_four_and_sixty_five(self):
        square = ("a", "k", ("area", (((0, 0), (127, 0), (127, 127), (0, 127)),)))
        more = ("b", "k", ("point", (-5, -5)))
        style = (("", 0, 6, 0, ("fill", 1)), ("", 0, 6, 0, ("dot", 1, 1)))
        self.assertEqual(len(touched_tiles((), (square,), style, 0)), 64)
        self.assertEqual(len(changed_tiles((), (square,), style, 0)), 64)
        self.assertEqual(len(touched_tiles((square,), (more,), style, 1)), 17)
        for call in (touched_tiles, changed_tiles):
            for old, new in (((), (square, more)), ((square,), (more,)), ((square, more), ())):
                with self.assertRaises(TooLarge) as caught:
                    call(old, new, style, 0)
                self.assertEqual(caught.exception.what, "tiles")
        self.same(touched_tiles((square, more), (square,), style, 0), [(0, -1, -1)])

    def test_reaches_that_share_tiles(self):
        square = ("area", (((0, 0), (127, 0), (127, 127), (0, 127)),))
        style = (("", 0, 6, 0, ("fill", 1)),)
        two = (("a", "k", square), ("b", "k", square))
        self.assertEqual(len(touched_tiles((), two, style, 0)), 64)

    def test_much_too_large(self):
        wide = ("wide", "k", ("area", (((-1000, -1000), (1000, -1000), (1000, 1000), (-1000, 1000)),)))
        style = (("", 0, 6, 0, ("fill", 1)),)
        for call in (touched_tiles, changed_tiles):
            with self.assertRaises(TooLarge):
                call((wide,), (), style, 0)
        self.assertEqual(len(touched_tiles((wide,), (), style, 6)), 4)

    def test_as_the_document_tells(self):
        changed_ones = touched_ones = 0
        for old, new, style, scale in some_changes(95, 150):
            names = [name for name in {thing[0] for thing in old + new}
                     if [thing for thing in old if thing[0] == name] != [thing for thing in new if thing[0] == name]]
            changed = [thing for thing in old + new if thing[0] in names]
            wanted = tiles_near(changed, style, scale)
            if len(wanted) > 64:
                continue
            self.same(touched_tiles(old, new, style, scale), wanted)
            other = [tile for tile in wanted if tile_picture(old, style, tile) != tile_picture(new, style, tile)]
            self.same(changed_tiles(old, new, style, scale), other)
            touched_ones += len(wanted)
            changed_ones += len(other)
        self.assertGreater(touched_ones, changed_ones)
        self.assertGreater(changed_ones, 50)

    def test_all_other_tiles_are_the_same(self):
        for old, new, style, scale in some_changes(96, 40):
            touched = touched_tiles(old, new, style, scale)
            for column, row in itertools.product(range(-2, 4), repeat=2):
                if (scale, column, row) not in touched:
                    self.assertEqual(tile_picture(old, style, (scale, column, row)),
                                     tile_picture(new, style, (scale, column, row)))

    def test_further_things_below(self):
        source = random.Random(97)
        seen = 0
        for _ in range(60):
            things, style = some_map(source, 3)
            low = tuple((kind, least, most, order, look) for kind, least, most, order, look in style if kind != "")
            low += (("under", 0, 6, -8, ("fill", 33)), ("under", 0, 6, -8, ("stroke", 34, 2)))
            more = things + (("z", "under", FIELD),)
            for tile in changed_tiles(things, more, low, 0):
                seen += 1
                self.assertTrue(any(0 in row for row in tile_picture(things, low, tile)))
        self.assertGreater(seen, 20)

    def test_a_new_list(self):
        for call in (touched_tiles, changed_tiles):
            wanted = call((POND,), (MOVED,), STYLE, 0)
            call((POND,), (MOVED,), STYLE, 0).clear()
            self.same(call((POND,), (MOVED,), STYLE, 0), wanted)

    def test_refused(self):
        for call in (touched_tiles, changed_tiles):
            self.refuses(call, ("old", (POND,), NO_MAPS[::5]), ("new", (MOVED,), NO_MAPS[::5]),
                         ("style", STYLE, NO_STYLES[::5]), ("scale", 0, NO_SCALES))


if __name__ == "__main__":
    unittest.main()
