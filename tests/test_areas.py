"""Points 51 to 62: areas, their normal form, and what is made of two of them."""

import random
import unittest
from fractions import Fraction

from tests.plain_areas import exact, is_covered, normal_by_python, place_of, size_by_python, told, ways_of
from tests.test_fractions import NO_FRACTIONS
from tests.test_sides import NO_POINTS
from tests.tools import Case, ODD_VALUES, shuffled, without
from trueatlas.areas import (area_of, common, contains, difference, either, is_area, is_same, normal, overlap, rest_of,
                             side_in, size_of, union)

WANTED = {
    union: lambda first, second: first or second,
    common: lambda first, second: first and second,
    difference: lambda first, second: first and not second,
    either: lambda first, second: first != second,
}
SQUARE = ((0, 0), (4, 0), (4, 4), (0, 4))
ONE = area_of((SQUARE,))
TWO = area_of((((2, 2), (6, 2), (6, 6), (2, 6)),))
STAR = area_of((((0, 0), (4, 0), (0, 3), (4, 3)),))
FRAME = ((0, 0), (9, 0), (9, 9), (0, 9))
HOLE = ((3, 3), (6, 3), (6, 6), (3, 6))
ZIGZAG = tuple((k, k % 2) for k in range(79)) + ((39, 500),)
LONG = 10 ** 39
TOO_LONG = 10 ** 40
A, B, C = ((0, 1), (0, 1)), ((4, 1), (0, 1)), ((0, 1), (4, 1))
NO_EXACT = ODD_VALUES + [
    (value, (0, 1)) for value in NO_FRACTIONS] + [((0, 1), value) for value in NO_FRACTIONS] + [
    ((0, 1), (0, 1), (0, 1)), [(0, 1), (0, 1)], ((TOO_LONG, 1), (0, 1)), ((-TOO_LONG, 1), (0, 1)),
    ((0, 1), (TOO_LONG, 1)), ((1, TOO_LONG), (0, 1)), ((0, 1), (1, TOO_LONG)), ((2, 4), (0, 1)), (0, 0), (5, 7),
]
NO_AREAS = without(()) + [(value,) for value in ODD_VALUES] + [((A, B, value),) for value in NO_EXACT] + [
    [(A, B, C)], ([A, B, C],), ((A, B),), (((A, B, C),),), ((A, A, B),), ((A, B, B),), ((A, B, A),), ((A, B, C, A),),
    ((A, B, C), (A, B)), ((A, B, C), ()), ((A, B, C), None), (A, B, C), SQUARE, (SQUARE,),
]
TOO_MANY = ((ZIGZAG, SQUARE), (ZIGZAG + ((38, 500),),), (SQUARE,) * 20 + (SQUARE[:3],))
NO_RINGS = without(()) + [(value,) for value in ODD_VALUES] + [(SQUARE + (value,),) for value in NO_POINTS] + [
    [SQUARE], (list(SQUARE),), (SQUARE[:2],), (SQUARE[:2] + SQUARE[:1],), (SQUARE + SQUARE[:1],), (SQUARE, ()),
    (SQUARE[:1] + SQUARE,), (SQUARE + SQUARE[3:],), SQUARE, ONE, ((A, B, C),), *TOO_MANY,
]


def some_ring(source, many, reach):
    """A ring of points of the map in which neighbours are different."""
    while True:
        ring = tuple((source.randint(0, reach), source.randint(0, reach)) for _ in range(many))
        if all(p != q for p, q in zip(ring, ring[1:] + ring[:1])):
            return ring


def some_area(source, rings, points, reach):
    """An area of some rings, which touch and cross as it comes."""
    return area_of(tuple(some_ring(source, source.randint(3, points), reach) for _ in range(source.randint(0, rings))))


def some_pairs(seed, many):
    """Pairs of areas: crowded ones, in which much stands twice, and wide ones."""
    source = random.Random(seed)
    for _ in range(many):
        rings, points, reach = source.choice(((1, 4, 2), (2, 4, 3), (1, 7, 3), (3, 5, 4), (2, 6, 9), (1, 9, 30)))
        yield some_area(source, rings, points, reach), some_area(source, rings, points, reach)


def with_fractions(area, source):
    """The area with its points moved to fractions."""
    return tuple(
        tuple(exact(Fraction(*x) * Fraction(2, 7) + Fraction(source, 3), Fraction(*y) / 5 - source) for x, y in ring)
        for ring in area)


def written_otherwise(area, seed):
    """The same rings, begun elsewhere, some of them reversed, in another order."""
    source = random.Random(seed)
    rings = []
    for ring in shuffled(area, seed):
        k = source.randrange(len(ring))
        ring = ring[k:] + ring[:k]
        rings.append(ring[::-1] if source.random() < 0.5 else ring)
    return tuple(rings)


class IsAreaTest(Case):

    def test_areas(self):
        for value in ((), ONE, STAR, ONE + ONE, ((A, B, C),), ((A, B, A, C),), (((A, B) * 2),),
                      area_of((ZIGZAG,)), area_of((SQUARE,) * 20)):
            self.assertIs(is_area(value), True, value)

    def test_others(self):
        for value in NO_AREAS:
            self.assertIs(is_area(value), False, value)

    def test_how_many_points(self):
        ring = tuple(((k, 1), (k % 2, 1)) for k in range(80))
        self.assertIs(is_area((ring,)), True)
        self.assertIs(is_area((ring + (((7, 1), (9, 1)),),)), False)
        self.assertIs(is_area((ring[:77], (A, B, C))), True)
        self.assertIs(is_area((ring[:78], (A, B, C))), False)

    def test_how_long_numbers(self):
        for n, d in ((TOO_LONG - 1, 1), (1 - TOO_LONG, 1), (1, TOO_LONG - 1), (LONG, 7), (-LONG, 7)):
            self.assertIs(is_area((((((n, d), (0, 1)), B, C),))), True, (n, d))
            self.assertIs(is_area((((((0, 1), (n, d)), B, C),))), True, (n, d))
        for n, d in ((TOO_LONG, 1), (-TOO_LONG, 1), (1, TOO_LONG), (TOO_LONG, TOO_LONG - 1), (10 ** 300, 1)):
            self.assertIs(is_area((((((n, d), (0, 1)), B, C),))), False, (n, d))
            self.assertIs(is_area((((((0, 1), (n, d)), B, C),))), False, (n, d))

    def test_lowest_terms(self):
        for n, d in ((2, 2), (0, 3), (4, 6), (-4, 2), (1, 0), (1, -2), (-1, -2), (True, 1), (1, True), (1.0, 1)):
            self.assertIs(is_area((((((n, d), (0, 1)), B, C),))), False, (n, d))


class AreaOfTest(Case):

    def test_as_they_are(self):
        self.same(area_of(()), ())
        self.same(area_of((SQUARE[::-1], SQUARE[1:])), (
            (((0, 1), (4, 1)), ((4, 1), (4, 1)), ((4, 1), (0, 1)), ((0, 1), (0, 1))),
            (((4, 1), (0, 1)), ((4, 1), (4, 1)), ((0, 1), (4, 1)))))
        self.same(area_of((((5, -3), (1000, -1000), (5, -3), (0, 0)),)),
                  ((((5, 1), (-3, 1)), ((1000, 1), (-1000, 1)), ((5, 1), (-3, 1)), ((0, 1), (0, 1))),))

    def test_how_many_points(self):
        self.assertEqual(len(area_of((ZIGZAG,))[0]), 80)
        self.assertEqual(len(area_of((SQUARE,) * 20)), 20)
        for rings in TOO_MANY:
            self.bad("rings", area_of, rings)

    def test_refused(self):
        self.refuses(area_of, ("rings", (SQUARE,), NO_RINGS))


class SideInTest(Case):

    def test_examples(self):
        self.same(side_in(ONE, ((7, 2), (1, 3))), "in")
        self.same(side_in(ONE, ((4, 1), (1, 2))), "on")
        self.same(side_in(ONE, ((9, 2), (1, 1))), "out")

    def test_empty(self):
        self.same(side_in((), exact(0, 0)), "out")

    def test_corners_and_their_heights(self):
        roof = area_of((((0, 0), (4, 4), (8, 0), (8, 8), (0, 8)),))
        for x, y, place in ((0, 0, "on"), (4, 4, "on"), (2, 4, "in"), (6, 4, "in"), (-1, 4, "out"), (9, 4, "out"),
                            (4, 0, "out"), (-1, 0, "out"), (9, 0, "out"), (-1, 8, "out"), (9, 8, "out"), (3, 8, "on")):
            self.same(side_in(roof, exact(x, y)), place)

    def test_crossing_rings(self):
        self.same(side_in(STAR, exact(2, Fraction(3, 2))), "on")
        self.same(side_in(STAR, exact(2, 1)), "in")
        self.same(side_in(STAR, exact(2, 2)), "in")
        self.same(side_in(STAR, exact(1, Fraction(3, 2))), "out")
        both = ONE + TWO
        self.same([side_in(both, exact(k, k)) for k in (1, 3, 5)], ["in", "out", "in"])

    def test_an_edge_that_stands_twice(self):
        both = ONE + ONE
        self.same(side_in(both, exact(1, 1)), "out")
        self.same(side_in(both, exact(0, 1)), "on")
        beside = area_of((SQUARE, ((4, 0), (8, 0), (8, 4), (4, 4))))
        self.same(side_in(beside, exact(4, 2)), "on")
        self.same(side_in(beside, exact(Fraction(399, 100), 2)), "in")

    def test_long_numbers(self):
        point = ((2 * LONG + 1, LONG), (1, TOO_LONG - 1))
        self.same(side_in(ONE, point), "in")
        self.same(side_in(ONE, ((LONG * 4 + 1, LONG), (1, 1))), "out")
        self.same(side_in(ONE, ((4, 1), (1, TOO_LONG - 1))), "on")
        wide = ((A, B, ((LONG, 1), (LONG, 1))),)
        self.same([side_in(wide, exact(5, y)) for y in (1, 3, 5, 6)], ["out", "in", "on", "out"])

    def test_as_python_tells(self):
        source = random.Random(52)
        seen = {}
        for area, _ in some_pairs(1, 60):
            for _ in range(20):
                p = (Fraction(source.randint(-1, 12), source.choice((1, 2, 3))),
                     Fraction(source.randint(-1, 12), source.choice((1, 2, 3))))
                place = place_of(area, p)
                self.same(side_in(area, exact(*p)), place)
                seen[place] = True
        self.assertEqual(len(seen), 3)

    def test_refused(self):
        self.refuses(side_in, ("area", ONE, NO_AREAS), ("point", A, NO_EXACT))


class NormalTest(Case):

    def test_star(self):
        wanted = ((exact(0, 0), exact(4, 0), exact(2, Fraction(3, 2))),
                  (exact(0, 3), exact(2, Fraction(3, 2)), exact(4, 3)))
        self.same(normal(STAR), wanted)
        self.same(union(STAR, ()), wanted)

    def test_nothing(self):
        for area in ((), ONE + ONE, ((A, B, A, C),), ((A, B) * 2,), area_of((((0, 0), (2, 0), (5, 0)),))):
            self.same(normal(area), ())
            self.same(size_of(area), (0, 1))
            self.assertIs(is_same(area, ()), True)

    def test_what_goes_back_along_itself(self):
        thorn = area_of((((0, 0), (4, 0), (9, 0), (4, 0), (4, 4), (0, 4)),))
        self.same(normal(thorn), ONE)
        bridge = area_of((((0, 0), (4, 0), (4, 4), (8, 4), (8, 8), (12, 8), (8, 12), (8, 4), (4, 4), (0, 4)),))
        self.same(normal(bridge), area_of((SQUARE, ((8, 8), (12, 8), (8, 12)))))

    def test_straight_points_and_order(self):
        self.same(normal(area_of((((4, 0), (4, 4), (2, 4), (0, 4), (0, 0), (1, 0)),))), ONE)
        self.same(normal(area_of((SQUARE[::-1],))), ONE)

    def test_hole(self):
        wanted = area_of((FRAME, ((3, 3), (3, 6), (6, 6), (6, 3))))
        for rings in ((FRAME, HOLE), (HOLE, FRAME[::-1]), (HOLE[::-1], FRAME)):
            self.same(normal(area_of(rings)), wanted)
        self.same(size_of(wanted), (2 * 81 - 2 * 9, 1))

    def test_edges_that_overlap_in_part(self):
        two = area_of((((0, 0), (4, 0), (4, 4), (0, 4)), ((4, 1), (6, 1), (6, 3), (4, 3))))
        self.same(normal(two), area_of((
            ((0, 0), (4, 0), (4, 1), (6, 1), (6, 3), (4, 3), (4, 4), (0, 4)),)))

    def test_rings_that_touch(self):
        # The upper triangle stands with its tip on the edge of the square, which goes straight on there.
        tip = area_of((SQUARE, ((2, 4), (3, 6), (1, 6))))
        self.same(normal(tip), area_of((SQUARE, ((1, 6), (2, 4), (3, 6)))))
        corners = area_of((SQUARE, ((4, 4), (8, 4), (8, 8), (4, 8))))
        self.same(normal(corners), corners)

    def test_a_hole_that_touches_the_edge(self):
        self.same(normal(area_of((FRAME, ((4, 0), (6, 3), (2, 3))))),
                  area_of((((0, 0), (4, 0), (2, 3), (6, 3), (4, 0), (9, 0), (9, 9), (0, 9)),)))

    def test_a_least_point_that_is_passed_twice(self):
        wanted = area_of((((0, 0), (5, 1), (5, -1), (0, 0), (10, -5), (10, 5)),))
        self.same(normal(area_of((((0, 0), (10, -5), (10, 5)), ((0, 0), (5, -1), (5, 1))))), wanted)
        self.same(normal(wanted), wanted)

    def test_crossings_that_are_no_whole_points(self):
        self.same(common(area_of((((0, 0), (3, 1), (0, 2)),)), area_of((((2, 0), (2, 9), (1, 9), (1, 0)),))),
                  ((exact(1, Fraction(1, 3)), exact(2, Fraction(2, 3)), exact(2, Fraction(4, 3)),
                    exact(1, Fraction(5, 3))),))

    def test_as_python_tells(self):
        for area, _ in some_pairs(2, 150):
            self.same(normal(area), normal_by_python([area], bool))

    def test_written_otherwise(self):
        for seed, (area, other) in enumerate(some_pairs(3, 60)):
            again = written_otherwise(area, seed)
            self.same(normal(again), normal(area))
            self.assertIs(is_same(again, area), True)
            for call in WANTED:
                self.same(call(again, other), call(area, other))

    def test_of_a_normal_area(self):
        for area, _ in some_pairs(4, 100):
            found = normal(area)
            if is_area(found):
                self.same(normal(found), found)
                self.assertIs(is_same(found, area), True)
                self.assertIs(is_same(found + ONE, area + ONE), True)

    def test_only_one_for_each_cover(self):
        found = [area for pair in some_pairs(5, 40) for area in pair]
        for first, second in zip(found, found[1:]):
            self.assertIs(is_same(first, second), normal(first) == normal(second))

    def test_refused(self):
        self.refuses(normal, ("area", ONE, NO_AREAS))


class TwoAreasTest(Case):

    def test_examples(self):
        self.same(common(ONE, TWO), area_of((((2, 2), (4, 2), (4, 4), (2, 4)),)))
        self.same(size_of(union(ONE, TWO)), (56, 1))
        self.same(difference(ONE, TWO)[0][:3], (exact(0, 0), exact(4, 0), exact(4, 2)))
        self.same(either(ONE, TWO), area_of((
            ((0, 0), (4, 0), (4, 2), (2, 2), (2, 4), (0, 4)), ((2, 4), (4, 4), (4, 2), (6, 2), (6, 6), (2, 6)))))

    def test_with_nothing(self):
        for area in (ONE, STAR, (), ONE + ONE):
            self.same(union(area, ()), normal(area))
            self.same(union((), area), normal(area))
            self.same(difference(area, ()), normal(area))
            self.same(either((), area), normal(area))
            self.same(difference((), area), ())
            self.same(common(area, ()), ())
            self.same(common((), area), ())

    def test_with_itself(self):
        for area, _ in some_pairs(6, 30):
            self.same(union(area, area), normal(area))
            self.same(common(area, area), normal(area))
            self.same(difference(area, area), ())
            self.same(either(area, area), ())

    def test_as_python_tells(self):
        empty = 0
        for first, second in some_pairs(7, 120):
            for call, wanted in WANTED.items():
                found = normal_by_python([first, second], wanted)
                self.same(call(first, second), found)
                empty += not found
        self.assertLess(empty, 200)

    def test_fractions_as_python_tells(self):
        for seed, (first, second) in enumerate(some_pairs(8, 40)):
            first, second = with_fractions(first, seed % 2), with_fractions(second, 0)
            for call, wanted in WANTED.items():
                self.same(call(first, second), normal_by_python([first, second], wanted))

    def test_every_point_is_right(self):
        source = random.Random(54)
        for first, second in some_pairs(9, 60):
            for call, wanted in WANTED.items():
                found = call(first, second)
                for _ in range(6):
                    p = (Fraction(source.randint(-40, 360), 37), Fraction(source.randint(-40, 360), 41))
                    if "on" not in (place_of(first, p), place_of(second, p)):
                        covered = wanted(is_covered(first, p), is_covered(second, p))
                        self.assertEqual(place_of(found, p), "in" if covered else "out")

    def test_no_edge_twice_and_none_crossing(self):
        for first, second in some_pairs(10, 60):
            ways = ways_of(either(first, second))
            self.assertEqual(len({(min(way), max(way)) for way in ways}), len(ways))

    def test_long_numbers(self):
        near = ((LONG * 4 - 1, LONG), (LONG + 1, LONG + 3))
        thin = ((A, B, near),)
        self.assertIs(is_area(thin), True)
        self.same(common(thin, ONE), thin)
        found = common(thin, area_of((((1, -1), (2, -1), (2, 2), (1, 2)),)))
        self.same(found, normal_by_python([thin, area_of((((1, -1), (2, -1), (2, 2), (1, 2)),))], WANTED[common]))
        self.assertIs(is_area(found), False)
        for call in WANTED:
            self.bad("first", call, found, None)
            self.bad("second", call, (), found)

    def test_more_points_than_an_area_may_have(self):
        comb = area_of((tuple((k, 9 * (k % 2)) for k in range(40)) + ((39, -1), (0, -1)),))
        flat = area_of((((-1, 3), (50, 3), (50, 5), (-1, 5)),))
        found = either(comb, flat)
        self.assertGreater(sum(len(ring) for ring in found), 80)
        self.same(found, normal_by_python([comb, flat], WANTED[either]))
        self.assertIs(is_area(found), False)
        self.bad("area", size_of, found)
        self.bad("area", normal, found)

    def test_eighty_points(self):
        star = area_of((tuple((k * 31 % 80, k * 57 % 79) for k in range(80)),))
        self.assertIs(is_area(star), True)
        self.assertEqual(size_of(star), told(size_by_python(normal(star))))
        self.same(common(star, star), normal(star))

    def test_a_copy(self):
        first, second = ONE, TWO
        before = repr((first, second))
        for call in WANTED:
            self.same(call(first, second), call(first, second))
        self.assertEqual(repr((first, second)), before)

    def test_refused(self):
        for call in (*WANTED, is_same, contains, overlap):
            self.refuses(call, ("first", ONE, NO_AREAS[::3]), ("second", TWO, NO_AREAS[::3]))
            self.bad("first", call, NO_AREAS[-1], NO_AREAS[-1])


class AskedTest(Case):

    def test_examples(self):
        self.assertIs(is_same(ONE, ONE + ONE + ONE), True)
        self.assertIs(is_same(ONE + ONE, ()), True)
        self.assertIs(is_same(ONE, TWO), False)

    def test_contains(self):
        inner = area_of((((1, 1), (4, 1), (4, 3)),))
        self.assertIs(contains(ONE, inner), True)
        self.assertIs(contains(inner, ONE), False)
        self.assertIs(contains(ONE, ONE), True)
        self.assertIs(contains(ONE, ()), True)
        self.assertIs(contains((), ()), True)
        self.assertIs(contains((), ONE), False)
        self.assertIs(contains(ONE, TWO), False)
        self.assertIs(contains(area_of((FRAME, HOLE)), area_of((HOLE,))), False)

    def test_overlap(self):
        self.assertIs(overlap(ONE, TWO), True)
        self.assertIs(overlap(ONE, area_of((((4, 0), (8, 0), (8, 4), (4, 4)),))), False)
        self.assertIs(overlap(ONE, area_of((((4, 4), (8, 4), (8, 8), (4, 8)),))), False)
        self.assertIs(overlap(area_of((FRAME, HOLE)), area_of((HOLE,))), False)
        self.assertIs(overlap(ONE, ()), False)
        self.assertIs(overlap((), ()), False)
        self.assertIs(overlap(ONE, ((exact(1, 1), exact(Fraction(3, 2), 1), exact(1, Fraction(3, 2))),)), True)

    def test_what_follows(self):
        seen = {}
        pairs = list(some_pairs(11, 150))
        pairs += [(union(first, second), first) for first, second in pairs[:40]]
        for first, second in pairs:
            self.assertIs(contains(first, second), difference(second, first) == ())
            self.assertIs(overlap(first, second), common(first, second) != ())
            self.assertIs(is_same(first, second), either(first, second) == ())
            seen[contains(first, second), overlap(first, second)] = True
        self.assertEqual(len(seen), 4)


class SizeTest(Case):

    def test_some(self):
        self.same(size_of(()), (0, 1))
        self.same(size_of(ONE), (32, 1))
        self.same(size_of(area_of((SQUARE[::-1],))), (32, 1))
        self.same(size_of(STAR), (12, 1))
        self.same(size_of(ONE + TWO), (48, 1))
        self.same(size_of(((exact(0, 0), exact(Fraction(1, 3), 0), exact(0, Fraction(1, 5))),)), (1, 15))

    def test_sums(self):
        for first, second in some_pairs(12, 80):
            whole, part = common(first, second), union(first, second)
            rest = difference(first, second)
            if is_area(whole) and is_area(part) and is_area(rest):
                sizes = [Fraction(*size_of(area)) for area in (first, second, whole, part, rest)]
                self.assertEqual(sizes[2] + sizes[3], sizes[0] + sizes[1])
                self.assertEqual(sizes[4], sizes[0] - sizes[2])
                self.assertEqual(sizes[0], size_by_python(normal(first)))
                self.assertEqual(sizes[0] > 0, normal(first) != ())

    def test_refused(self):
        self.refuses(size_of, ("area", ONE, NO_AREAS))


class RestOfTest(Case):

    def test_some(self):
        self.same(rest_of((0, 0, 4, 4), ()), ONE)
        self.same(rest_of((0, 0, 4, 4), ONE), ())
        self.same(rest_of((0, 0, 9, 9), area_of((HOLE,))), normal(area_of((FRAME, HOLE))))
        self.same(rest_of((2, 2, 6, 6), ONE), difference(TWO, ONE))
        self.same(rest_of((-1000, -1000, 1000, 1000), ()), area_of((
            ((-1000, -1000), (1000, -1000), (1000, 1000), (-1000, 1000)),)))

    def test_as_the_difference(self):
        for area, _ in some_pairs(13, 60):
            box = area_of((((1, 0), (5, 0), (5, 3), (1, 3)),))
            self.same(rest_of((1, 0, 5, 3), area), difference(box, area))

    def test_refused(self):
        wrong = ODD_VALUES + [
            (0, 0, 4), (0, 0, 4, 4, 4), [0, 0, 4, 4], (0, 0, 0, 4), (0, 0, 4, 0), (4, 0, 0, 4), (0, 4, 4, 0),
            (4, 0, 4, 9), (0, 4, 9, 4), (4, 4, 4, 4),
            (0, 0, 1001, 4), (-1001, 0, 4, 4), (0, -1001, 4, 4), (0, 0, 4, 1001), (0, 0, 4, True), (False, 0, 4, 4),
            (0, 0, 4.0, 4), ("0", 0, 4, 4), (0, 0, None, 4), ((0, 0), (4, 4)),
        ]
        self.refuses(rest_of, ("box", (0, 0, 4, 4), wrong), ("area", ONE, NO_AREAS[::3]))


if __name__ == "__main__":
    unittest.main()
