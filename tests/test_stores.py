"""Points 95 and 96: a store of tiles, and what it keeps when the map changes."""

import itertools
import random
import unittest

from tests.test_painting import each_point, some_map
from tests.test_shapes import NO_MAPS, SPOT
from tests.test_styles import NO_STYLES
from tests.test_tiles import DOTS, MOVED, NO_TILES, POND, STYLE, plain, tiles_near
from tests.tools import Case
from trueatlas.errors import BadValue, TooLarge
from trueatlas.stores import Store
from trueatlas.tiles import reach, tile_picture, touched_tiles

ICE = ("pond", "ice", POND[2])
LAKE = ("lake", "water", POND[2])
BOTH = STYLE + (("ice", 0, 6, 1, ("fill", 9)),)
WHOLE = ("whole", "water", ("area", (((-1000, -1000), (1000, -1000), (1000, 1000), (-1000, 1000)),)))
SCALES = (0, 1, 2, 3, 6)


def other_map(source, things):
    """The map with a change of a kind, a shape, a name, or with a thing more or less."""
    found = {name: (kind, shape) for name, kind, shape in things}
    names = sorted(found)
    what = source.choice(("kind", "shape", "name", "more", "less", "none"))
    if what == "more":
        found["z" * source.randint(1, 3)] = ("a", SPOT)
    elif names and what != "none":
        name = source.choice(names)
        kind, shape = found.pop(name)
        if what == "kind":
            found[name] = ({"a": "b", "b": "a"}[kind], shape)
        elif what == "shape":
            dx, dy = source.randint(-9, 9), source.randint(-9, 9)
            found[name] = (kind, each_point(shape, lambda p: (p[0] + dx, p[1] + dy)))
        elif what == "name":
            found[f"n{name}"] = (kind, shape)
    return tuple((name, *found[name]) for name in sorted(found))


def changed(old, new):
    """The things of both maps whose names stand for different things, by the words of point 94."""
    names = {thing[0] for thing in old + new}
    differing = [name for name in names if [thing for thing in old if thing[0] == name]
                 != [thing for thing in new if thing[0] == name]]
    return [thing for thing in old + new if thing[0] in differing]


class Watch:
    """A store beside a plain account of what it should keep."""

    def __init__(self, case, things, style):
        self.case, self.things, self.style = case, things, style
        self.store = Store(things, style)
        self.kept, self.drawn, self.dropped = set(), 0, 0

    def ask(self, tile):
        self.case.same(self.store.picture_of(tile), tile_picture(self.things, self.style, tile))
        self.drawn += tile not in self.kept
        self.kept.add(tile)
        self.look()

    def put(self, things):
        near = {tile for scale in SCALES for tile in tiles_near(changed(self.things, things), self.style, scale)}
        self.case.same(self.store.put(things), len(self.kept & near))
        self.dropped += len(self.kept & near)
        self.kept, self.things = self.kept - near, things
        self.look()

    def look(self):
        self.case.same(self.store.kept(), sorted(self.kept))
        self.case.same(self.store.drawn(), self.drawn)


class StoreTest(Case):

    def test_example(self):
        store = Store((POND,), STYLE)
        self.same((store.picture_of((0, 1, 0))[0][:2], store.drawn(), store.put((MOVED,)),
                   store.picture_of((0, 1, 0))[0][:2], store.drawn()), ((12, 12), 1, 1, (0, 0), 2))

    def test_without_tiles(self):
        store = Store((), ())
        self.same((store.kept(), store.drawn()), ([], 0))
        self.same(store.put((POND,)), 0)
        self.same((store.kept(), store.drawn()), ([], 0))
        self.same(store.picture_of((0, 0, 0)), plain(0))

    def test_asked_twice_and_again(self):
        watch = Watch(self, (POND,), STYLE)
        for tile in ((0, 0, 0), (0, 0, 0), (0, 5, 5), (0, 0, 0), (1, 0, 0)):
            watch.ask(tile)
        watch.put((MOVED,))
        self.same(watch.store.kept(), [(0, 5, 5)])
        for tile in ((0, 0, 0), (0, 5, 5), (0, 0, 0)):
            watch.ask(tile)
        self.same(watch.store.drawn(), 4)

    def test_an_equal_map(self):
        store = Store((POND,), STYLE)
        store.picture_of((0, 0, 0))
        self.same(store.put((POND,)), 0)
        self.same(store.put(tuple([("pond", "water", ("area", (tuple([(0, 0), (32, 0), (32, 16), (0, 16)]),)))])), 0)
        self.same((store.kept(), store.drawn()), ([(0, 0, 0)], 1))

    def test_kind_and_name_alone(self):
        for other in (ICE, LAKE):
            for style in (STYLE, BOTH):
                watch = Watch(self, (POND,), style)
                tiles = [(scale, column, row) for scale in (0, 1) for column in (-1, 0, 2, 3) for row in (0, 2)]
                for tile in tiles:
                    watch.ask(tile)
                watch.put((other,))
                self.assertEqual(watch.dropped, 3)
                for tile in tiles:
                    watch.ask(tile)
                watch.put((POND,))
                self.assertEqual(watch.dropped, 6)

    def test_a_tile_with_an_equal_picture_is_dropped(self):
        store = Store((POND,), STYLE)
        sheet = store.picture_of((0, 0, 0))
        self.same(store.put((LAKE,)), 1)
        self.same(store.kept(), [])
        self.same(store.picture_of((0, 0, 0)), sheet)
        self.same(store.drawn(), 2)

    def test_a_kind_without_a_rule(self):
        store = Store((("pond", "sand", POND[2]),), STYLE)
        store.picture_of((0, 0, 0))
        self.same(store.put((("pond", "mud", POND[2]),)), 0)
        self.same(store.put(()), 0)
        self.same(store.put((POND,)), 1)

    def test_rules_of_some_scales(self):
        style = (("water", 0, 1, 0, ("fill", 12)),)
        store = Store((POND,), style)
        for scale in range(7):
            store.picture_of((scale, 0, 0))
        self.same(store.put((MOVED,)), 2)
        self.same(store.kept(), [(scale, 0, 0) for scale in range(2, 7)])

    def test_more_than_64_tiles(self):
        with self.assertRaises(TooLarge):
            touched_tiles((), (WHOLE,), STYLE, 0)
        store = Store((), STYLE)
        tiles = [(0, column, row) for column in range(-63, -53) for row in range(-63, -53)] + [(0, 100, 100), (3, 0, 0)]
        for tile in tiles:
            self.same(store.picture_of(tile), plain(0))
        self.same(store.put((WHOLE,)), 101)
        self.same(store.kept(), [(0, 100, 100)])
        for tile in tiles:
            self.same(store.picture_of(tile), tile_picture((WHOLE,), STYLE, tile))
        self.same(store.drawn(), 102 + 101)

    def test_the_last_tiles(self):
        ends = [(scale, column, row) for scale in (0, 6) for column, row in itertools.product((-128, 127), repeat=2)]
        watch = Watch(self, (POND,), STYLE)
        for tile in ends:
            watch.ask(tile)
        watch.put((WHOLE,))
        self.same(watch.store.kept(), ends)
        corner = ("c", "k", ("point", (-1000, -1000)))
        style = (("", 0, 6, 0, ("dot", 3, 16)),)
        watch = Watch(self, (corner,), style)
        for tile in ends + [(0, -64, -64), (6, -1, -1), (6, -2, -2)]:
            watch.ask(tile)
        watch.put(())
        self.same(watch.store.kept(), ends)

    def test_whatever_comes(self):
        source = random.Random(95)
        dropped = kept = 0
        for _ in range(25):
            things, style = some_map(source, source.choice((1, 2, 4)), 5)
            watch = Watch(self, things, style)
            for _ in range(12):
                for _ in range(source.randint(0, 4)):
                    watch.ask((source.choice(SCALES), source.randint(-1, 2), source.randint(-1, 2)))
                watch.put(other_map(source, watch.things))
                kept += len(watch.kept)
            dropped += watch.dropped
        self.assertGreater(dropped, 40)
        self.assertGreater(kept, 40)

    def test_there_and_back(self):
        watch = Watch(self, (POND,), STYLE)
        for things in ((MOVED,), (POND,), (), (POND,), (LAKE, MOVED), (POND,)):
            watch.ask((0, 0, 0))
            watch.put(things)
            watch.ask((0, 1, 0))
        self.same(watch.store.drawn(), 12)

    def test_points(self):
        well = ("well", "spring", ("point", (14, 2)))
        store = Store((well,), DOTS)
        near = reach(well, DOTS, 0)
        for tile in near + [(0, 1, 0)]:
            store.picture_of(tile)
        self.same(store.put((("well", "spring", ("point", (15, 2))),)), 2)
        self.same(store.kept(), [])

    def test_a_list_that_the_caller_changes(self):
        store = Store((POND,), STYLE)
        store.picture_of((0, 1, 0))
        store.picture_of((0, 0, 0))
        kept = store.kept()
        kept.clear()
        kept.append((6, 6, 6))
        self.same(store.kept(), [(0, 0, 0), (0, 1, 0)])
        self.same(store.put((MOVED,)), 2)
        store.kept().append((0, 0, 0))
        store.picture_of((0, 0, 0))
        self.same(store.drawn(), 3)

    def test_stores_are_apart(self):
        first, second = Store((POND,), STYLE), Store((POND,), STYLE)
        first.picture_of((0, 0, 0))
        self.same((second.kept(), second.drawn()), ([], 0))

    def test_errors_change_nothing(self):
        store = Store((POND,), STYLE)
        sheet = store.picture_of((0, 0, 0))
        for wrong in NO_MAPS[::4]:
            with self.assertRaises(BadValue):
                store.put(wrong)
        for wrong in NO_TILES:
            with self.assertRaises(BadValue):
                store.picture_of(wrong)
        self.same((store.kept(), store.drawn()), ([(0, 0, 0)], 1))
        self.same(store.picture_of((0, 0, 0)), sheet)
        self.same((store.drawn(), store.put((MOVED,)), store.kept()), (1, 1, []))

    def test_refused(self):
        self.refuses(Store, ("map_things", (POND,), NO_MAPS[::4]), ("style", STYLE, NO_STYLES[::4]))
        store = Store((POND,), STYLE)
        self.refuses(store.put, ("map_things", (MOVED,), NO_MAPS))
        self.refuses(store.picture_of, ("tile", (0, 0, 0), NO_TILES))


if __name__ == "__main__":
    unittest.main()
