"""Points 123 to 125 and 132: changes of a map, and their opposites."""

import random
import unittest

from tests.test_asking import some_things
from tests.test_painting import each_point
from tests.test_shapes import (BEND, CROSSED, FIELD, HOLED, NO_MAPS, NO_NAMES, NO_SHAPES, NO_THINGS, SIXTY, SPOT,
                               some_shape)
from tests.tools import Case, ODD_VALUES
from trueatlas.changes import is_change, made, opposite, touched
from trueatlas.shapes import is_map

WELL = ("well", "spring", ("point", (3, 4)))
ROAD = ("road", "way", ("line", ((6, 0), (6, 8))))
THINGS = (ROAD, WELL)
OAK = ("oak", "tree", ("point", (0, 0)))
EACH = [("add", OAK), ("remove", "well"), ("shift", "well", -3, 5), ("reshape", "well", FIELD),
        ("rekind", "road", "path"),
        ("rename", "road", "zoo")]
NO_SHIFTS = [-2001, 2001, 10 ** 20, True, False, None, "0", 0.0, (), (0,), [0], b"0"]
NO_CHANGE = ODD_VALUES + [("add", value) for value in NO_THINGS] + [
    (word, value, *rest) for value in NO_NAMES
    for word, *rest in (("remove",), ("shift", 0, 0), ("reshape", SPOT), ("rekind", "a"), ("rename", "a"))] + [
    ("rekind", "well", value) for value in NO_NAMES] + [("rename", "well", value) for value in NO_NAMES] + [
    ("reshape", "well", value) for value in NO_SHAPES] + [("shift", "well", value, 0) for value in NO_SHIFTS] + [
    ("shift", "well", 0, value) for value in NO_SHIFTS] + [list(change) for change in EACH] + [
    change[:-1] for change in EACH] + [(*change, None) for change in EACH] + [(*change, "a") for change in EACH] + [
    (change[0].upper(), *change[1:]) for change in EACH] + [("", *change[1:]) for change in EACH] + [
    (None, *change[1:]) for change in EACH] + [((change[0],), *change[1:]) for change in EACH] + [
    ([change[0]], *change[1:]) for change in EACH] + [(change[0].encode(), *change[1:]) for change in EACH] + [
    (EACH[0],), ("add", "oak"), ("add", "oak", "tree", OAK[2]), ("add", THINGS), ("remove", OAK), ("shift", WELL, 1, 0),
    ("shift", "well", (1, 0)), ("rekind", "well", SPOT), ("reshape", "well", "spring"), ("move", "well", 1, 0),
    "remove"]
# Forms that are no tuple of at most 20 changes.
NO_CHANGES = [value for value in ODD_VALUES if value != ()] + [(value,) for value in NO_CHANGE[::4]] + [
    EACH, EACH[0], (EACH,), (EACH[2], None), (None, EACH[2]), (("shift", "well", 0, 0),) * 21,
    (("shift", "well", 0, 0),) * 20 + (None,), {EACH[2]: True}]
# What cannot be made on the two things.
NOT_MADE = [
    (("add", WELL),), (("add", ("well", "tree", SPOT)),), (("add", OAK), ("add", OAK)), (("remove", "oak"),),
    (("shift", "oak", 0, 0),), (("reshape", "oak", SPOT),), (("rekind", "oak", "tree"),), (("rename", "oak", "ash"),),
    (("rename", "well", "road"),), (("rename", "well", "well"),), (("rename", "oak", "oak"),),
    (("remove", "well"), ("remove", "well")), (("remove", "well"), ("shift", "well", 0, 0)),
    (("shift", "oak", 1, 1), ("add", OAK)), (("rename", "well", "a"), ("rekind", "well", "b")),
    (("rename", "well", "a"), ("rename", "road", "a")), (("rename", "well", "a"), ("add", ("a", "b", SPOT))),
    (("shift", "well", 998, 0),), (("shift", "well", -1004, 0),), (("shift", "well", 0, 997),),
    (("shift", "well", 0, -1005),), (("shift", "well", 2000, 0),), (("shift", "well", -2000, 2000),),
    (("shift", "road", 0, 993),), (("shift", "road", 0, -1001),),
    (("shift", "well", 600, 0), ("shift", "well", 398, 0)),
    (("shift", "well", 998, 0), ("shift", "well", -998, 0)),
]


def shifted(shape, dx, dy):
    return each_point(shape, lambda p: (p[0] + dx, p[1] + dy))


def made_by_python(things, change):
    """The things after one change, or None if it cannot be made, by the words of point 124."""
    found = {thing[0]: thing for thing in things}
    if change[0] == "add":
        if change[1][0] in found:
            return None
        found[change[1][0]] = change[1]
    else:
        if change[1] not in found or change[0] == "rename" and change[2] in found:
            return None
        name, kind, shape = found.pop(change[1])
        if change[0] == "shift":
            found[name] = (name, kind, shifted(shape, change[2], change[3]))
        elif change[0] == "reshape":
            found[name] = (name, kind, change[2])
        elif change[0] == "rekind":
            found[name] = (name, change[2], shape)
        elif change[0] == "rename":
            found[change[2]] = (change[2], kind, shape)
    result = tuple(found[name] for name in sorted(found))
    return result if is_map(result) else None


def all_made(things, changes):
    for change in changes:
        things = None if things is None else made_by_python(things, change)
    return things


def some_change(source, names):
    """A change of one of these names, or of a new one."""
    name, other = source.choice(names), source.choice(names)
    return source.choice([
        ("add", (name, source.choice("ab"), some_shape(source, 9))), ("remove", name),
        ("shift", name, source.choice((0, 5, -7, 995)), source.choice((0, 1, -2))),
        ("reshape", name, some_shape(source, 9)), ("rekind", name, source.choice("ab")), ("rename", name, other)])


def some_changes(source, things, many, names):
    """Changes that can be made on the things one after another."""
    found = []
    while len(found) < many:
        change = some_change(source, names)
        after = made_by_python(things, change)
        if after is not None:
            things = after
            found.append(change)
    return tuple(found)


class FormTest(Case):

    def test_changes(self):
        for value in EACH + [("shift", "oak", 2000, -2000), ("shift", "a", 0, 0), ("rename", "a", "a"),
                             ("remove", "a" * 12),
                             ("rekind", "a", "b"), ("reshape", "a", CROSSED), ("add", ("a", "a", HOLED))]:
            self.assertIs(is_change(value), True, value)
        for value in NO_CHANGE:
            self.assertIs(is_change(value), False, value)

    def test_deep(self):
        deep = "a"
        for _ in range(50000):
            deep = (deep,)
        for value in (deep, ("add", deep), ("remove", deep), ("reshape", "a", deep), ("shift", "a", deep, 0),
                      (deep, "a")):
            self.assertIs(is_change(value), False)


class MadeTest(Case):

    def test_each(self):
        for change, wanted in zip(EACH, (
                (OAK, ROAD, WELL), (ROAD,), (ROAD, ("well", "spring", ("point", (0, 9)))),
                (ROAD, ("well", "spring", FIELD)),
                (("road", "path", ROAD[2]), WELL), (WELL, ("zoo", "way", ROAD[2])))):
            self.same(made(THINGS, (change,)), wanted)

    def test_none(self):
        self.same(made(THINGS, ()), THINGS)
        self.same(made((), ()), ())
        self.same(opposite(THINGS, ()), ())

    def test_one_after_another(self):
        self.same(made((), (("add", OAK), ("shift", "oak", 1, 2), ("rename", "oak", "ash"), ("rekind", "ash", "wood"))),
                  (("ash", "wood", ("point", (1, 2))),))
        self.same(made(THINGS, (("remove", "well"), ("add", ("well", "a", SPOT)))), (ROAD, ("well", "a", SPOT)))
        self.same(made(THINGS, (("rename", "well", "a"), ("rename", "road", "well"), ("rename", "a", "road"))),
                  (("road", "spring", WELL[2]), ("well", "way", ROAD[2])))
        self.same(made(THINGS, (("reshape", "well", FIELD), ("shift", "well", 1, 1))),
                  (ROAD, ("well", "spring", shifted(FIELD, 1, 1))))

    def test_shapes_that_shift(self):
        for shape in (SPOT, BEND, FIELD, HOLED, CROSSED):
            self.same(made((("a", "k", shape),), (("shift", "a", -7, 12),)), (("a", "k", shifted(shape, -7, 12)),))

    def test_shifts_to_the_bounds(self):
        corner = ("a", "k", ("point", (-1000, 1000)))
        self.same(made((corner,), (("shift", "a", 2000, -2000),)), (("a", "k", ("point", (1000, -1000))),))
        for dx, dy in ((2000, 0), (1, 0), (0, -2000), (0, 0)):
            self.assertTrue(is_map(made((corner,), (("shift", "a", dx, dy),))))
        for dx, dy in ((-1, 0), (0, 1), (-2000, 0), (0, 2000), (2000, 2000)):
            self.bad("changes", made, (corner,), (("shift", "a", dx, dy),))
        self.same(made(THINGS, (("shift", "road", 0, 992),))[0], ("road", "way", ("line", ((6, 992), (6, 1000)))))

    def test_sixty(self):
        full = SIXTY[:60]
        for change in (("add", OAK), ("add", SIXTY[60])):
            self.bad("changes", made, full, (change,))
            self.assertEqual(len(made(full, (("remove", "t00"), change))), 60)
            # After the first change there would be 61 things for a while.
            self.bad("changes", made, full, (change, ("remove", "t00")))
        self.assertEqual(len(made(full, (("rename", "t00", "oak"),))), 60)
        self.same(made(SIXTY[1:60], (("add", SIXTY[0]),)), full)

    def test_twenty(self):
        one = ("shift", "well", 1, 0)
        self.same(made(THINGS, (one,) * 20)[1], ("well", "spring", ("point", (23, 4))))
        for call in (made, opposite):
            self.bad("changes", call, THINGS, (one,) * 21)
        self.bad("changes", touched, (one,) * 21)

    def test_as_the_document_tells(self):
        source = random.Random(124)
        done = refused = 0
        for _ in range(300):
            things = some_things(source, source.randint(0, 5))
            names = [thing[0] for thing in things] * 2 + ["a", "b"]
            changes = tuple(some_change(source, names) for _ in range(source.randint(1, 3)))
            wanted = all_made(things, changes)
            if wanted is None:
                refused += 1
                self.bad("changes", made, things, changes)
                self.bad("changes", opposite, things, changes)
            else:
                done += 1
                self.same(made(things, changes), wanted)
        self.assertGreater(done, 50)
        self.assertGreater(refused, 50)

    def test_cannot_be_made(self):
        for changes in NOT_MADE:
            self.assertTrue(all(is_change(change) for change in changes))
            self.bad("changes", made, THINGS, changes)
            self.bad("changes", opposite, THINGS, changes)
            self.assertEqual(len(touched(changes)) > 0, True)

    def test_refused(self):
        for call in (made, opposite):
            self.refuses(call, ("map_things", THINGS, NO_MAPS[::2]),
                         ("changes", tuple(EACH[2:]), NO_CHANGES + NOT_MADE))


class OppositeTest(Case):

    def test_each(self):
        for change, wanted in zip(EACH, (
                ("remove", "oak"), ("add", WELL), ("shift", "well", 3, -5), ("reshape", "well", WELL[2]),
                ("rekind", "road", "way"), ("rename", "zoo", "road"))):
            self.same(opposite(THINGS, (change,)), (wanted,))
        self.same(opposite(THINGS, (("shift", "well", 0, 0),)), (("shift", "well", 0, 0),))

    def test_rows(self):
        self.same(opposite(THINGS, (("shift", "well", 1, 2), ("rename", "well", "a"), ("rekind", "a", "b"),
                                    ("remove", "a"))),
                  (("add", ("a", "b", ("point", (4, 6)))), ("rekind", "a", "spring"), ("rename", "a", "well"),
                   ("shift", "well", -1, -2)))
        self.same(opposite(THINGS, (("reshape", "well", SPOT), ("reshape", "well", FIELD))),
                  (("reshape", "well", SPOT), ("reshape", "well", WELL[2])))
        self.same(opposite((), (("add", OAK), ("remove", "oak"))), (("add", OAK), ("remove", "oak")))

    def test_there_and_back(self):
        source = random.Random(125)
        for _ in range(100):
            things = some_things(source, source.randint(0, 5))
            names = [thing[0] for thing in things] * 3 + ["a", "b", "c"]
            changes = some_changes(source, things, source.choice((1, 2, 5, 20)), names)
            back = opposite(things, changes)
            self.assertIsInstance(back, tuple)
            after = made(things, changes)
            self.same(made(after, back), things)
            self.same(opposite(after, back), changes)
            self.same(touched(back), touched(changes))
            self.assertEqual(len(back), len(changes))


class TouchedTest(Case):

    def test_some(self):
        self.same(touched(()), [])
        self.same(touched(tuple(EACH)), ["oak", "road", "well", "zoo"])
        self.same(touched((("rename", "b", "a"), ("remove", "b"), ("remove", "b"))), ["a", "b"])
        self.same(touched((("rename", "a", "a"),)), ["a"])
        self.same(touched((("remove", "a10"), ("remove", "b"), ("remove", "a1"), ("add", OAK), ("remove", "a"))),
                  ["a", "a1", "a10", "b", "oak"])

    def test_a_list_that_the_caller_changes(self):
        changes = tuple(EACH)
        touched(changes).clear()
        touched(changes).append("z")
        self.same(touched(changes), ["oak", "road", "well", "zoo"])

    def test_refused(self):
        self.refuses(touched, ("changes", tuple(EACH), NO_CHANGES))
        for value in NO_CHANGE:
            self.bad("changes", touched, (EACH[1], value))


if __name__ == "__main__":
    unittest.main()
