"""Points 67 to 74: worths, which points can go, steps and what is kept after them."""

import itertools
import random
import unittest
from fractions import Fraction

from tests.test_arcs import LINE, LOOP, NO_TRACKS, NO_TRACK_LISTS, TWELVE, some_line_lists
from tests.test_crossings import meeting_by_python
from tests.test_sides import NO_POINTS
from tests.tools import Case, ODD_VALUES, grid, without
from trueatlas.arcs import arcs_of, joined
from trueatlas.rings import place_in, ring_of
from trueatlas.simplifying import can_go, simplified, simplified_lines, taken, worths

MOST = 10000000
HILL = ((0, 0), (4, 4), (8, 0))
NO_TOLD = without(()) + [(value,) for value in NO_POINTS] + [
    [(0, 0)], ((0, 0), None), tuple((k, 0) for k in range(41)), ((0, 0),) * 41, (0, 0)]
NO_THRESHOLDS = [-1, MOST + 1, 10 ** 20, True, False, None, "5", 5.0, (5,), [5], (), ""]
NO_STEPS = without([], [(0, 0), (1, 0)]) + [
    ((0, 1),), (), [[0, 1]], [(0,)], [(0, 1, 2)], [(0, 1), None], [(0, True)], [(False, 1)], [(0, 1.0)], [("0", 1)],
    [(None, 1)], [((0, 1),)], [0, 1], {(0, 1): 1},
]
NO_PLACES = [True, False, None, -1, 3, 10 ** 20, "1", "", 1.0, (), (1,), [], [1], {}, b"a", ((0, 1), (1,))]


def is_in(p, corners):
    """Whether a point is in a triangle, from its shares of the corners."""
    a, b, c = corners
    whole = (b[0] - a[0]) * (c[1] - a[1]) - (b[1] - a[1]) * (c[0] - a[0])
    if whole == 0:
        low, high = min(corners), max(corners)
        flat = (high[0] - low[0]) * (p[1] - low[1]) == (high[1] - low[1]) * (p[0] - low[0])
        return flat and low <= p <= high
    u = Fraction((p[0] - a[0]) * (c[1] - a[1]) - (p[1] - a[1]) * (c[0] - a[0]), whole)
    v = Fraction((b[0] - a[0]) * (p[1] - a[1]) - (b[1] - a[1]) * (p[0] - a[0]), whole)
    return u >= 0 and v >= 0 and u + v <= 1


def worth_by_shoelace(a, b, c):
    return abs(a[0] * b[1] - b[0] * a[1] + b[0] * c[1] - c[0] * b[1] + c[0] * a[1] - a[0] * c[1])


def reasons(arcs, told, threshold, number, place):
    """The conditions of point 68 that do not hold."""
    arc = arcs[number]
    a, b, c = corners = arc[place - 1:place + 2]
    found = []
    if not worth_by_shoelace(a, b, c) < threshold:
        found.append(1)
    if a == c:
        found.append(2)
    for n, row in enumerate(arcs):
        for k, p in enumerate(row):
            if is_in(p, corners) and p not in (a, c) and (n, k) != (number, place):
                found.append(3)
    if any(is_in(p, corners) and p not in corners for p in told):
        found.append(4)
    if any({p, q} == {a, c} for row in arcs for p, q in zip(row, row[1:])):
        found.append(5)
    if arc[0] == arc[-1] and len(set(arc)) < 4:
        found.append(6)
    return sorted(set(found))


def inner(arcs):
    """All inner points, as pairs of a number and a place."""
    return [(number, place) for number, arc in enumerate(arcs) for place in range(1, len(arc) - 1)]


def without_step(arcs, step):
    number, place = step
    return [arc[:place] + arc[place + 1:] if k == number else arc for k, arc in enumerate(arcs)]


def simplified_by_reasons(arcs, told, threshold):
    """The simplified arcs and the steps, by trying all inner points each time."""
    steps = []
    while True:
        free = [(worth_by_shoelace(*arcs[number][place - 1:place + 2]), number, place)
                for number, place in inner(arcs) if not reasons(arcs, told, threshold, number, place)]
        if not free:
            return list(arcs), steps
        steps.append(min(free)[1:])
        arcs = without_step(arcs, steps[-1])


def some_calls(seed, many):
    """Arcs, told points and thresholds."""
    source = random.Random(seed)
    for lines in some_line_lists(seed, many):
        if source.random() < 0.5 and len(arcs_of(lines)[0]) <= 12:
            lines = arcs_of(lines)[0]
        told = tuple((source.randint(0, 3), source.randint(0, 3)) for _ in range(source.choice((0, 0, 1, 3))))
        yield lines, told, source.choice((0, 1, 2, 3, 5, 9, MOST))


def wide_maps(seed, many):
    """Lines that have no points in common but their ends, as borders of fields have them."""
    source = random.Random(seed)
    found = 0
    while found < many:
        rings = []
        for x, y in source.sample(list(itertools.product(range(3), repeat=2)), source.randint(1, 4)):
            points = {(12 * x, 12 * y), (12 * x + 12, 12 * y), (12 * x + 12, 12 * y + 12), (12 * x, 12 * y + 12)}
            corners = sorted(points)
            ring = []
            for p, q in zip((0, 1, 3, 2), (1, 3, 2, 0)):
                ring.extend(wavy(corners[p], corners[q]))
            rings.append(tuple(ring) + (ring[0],))
        if edges_are_clean(rings):
            found += 1
            yield rings


def wavy(p, q):
    """Points on a bent way from p towards q, the same ones in both directions."""
    low, high = min(p, q), max(p, q)
    source = random.Random(repr((low, high)))
    row = [low]
    for k in (3, 6, 9):
        bend = source.randint(-2, 2)
        row.append((low[0] + k, low[1] + bend) if low[1] == high[1] else (low[0] + bend, low[1] + k))
    row.append(high)
    row = row if p == low else row[::-1]
    return row[:-1]


def edges_are_clean(lines):
    """Whether different edges have nothing but ends in common."""
    edges = sorted({(min(pair), max(pair)) for line in lines for pair in zip(line, line[1:])})
    for first, second in itertools.combinations(edges, 2):
        found = meeting_by_python(first, second)
        if found != ("none",) and not (found[0] == "touch" and found[1] in first and found[1] in second):
            return False
    return True


class WorthsTest(Case):

    def test_some(self):
        self.same(worths(LINE), [4, 8, 12])
        self.same(worths(LOOP), [18, 18, 18])
        self.same(worths(((0, 0), (1, 1))), [])
        self.same(worths(((0, 0), (1, 1), (3, 3), (2, 2))), [0, 0])
        self.same(worths(((-1000, -1000), (1000, -1000), (1000, 1000))), [4000000])
        self.same(worths(((0, 4), (4, 0), (0, 4), (5, 5))), [0, 24])

    def test_both_directions(self):
        for lines in some_line_lists(70, 60):
            for line in lines:
                self.same(worths(line), worths(line[::-1])[::-1])
                self.same(worths(line), [worth_by_shoelace(*three) for three in zip(line, line[1:], line[2:])])

    def test_a_new_list(self):
        worths(LINE).clear()
        self.same(worths(LINE), [4, 8, 12])

    def test_refused(self):
        self.refuses(worths, ("arc", LINE, NO_TRACKS))


class CanGoTest(Case):

    def goes(self, wanted, arcs, told=(), threshold=MOST, number=0, place=1):
        self.assertIs(can_go(arcs, told, threshold, number, place), wanted)
        back = [arc[::-1] for arc in arcs]
        self.assertIs(can_go(back, told, threshold, number, len(arcs[number]) - 1 - place), wanted)

    def test_worth(self):
        self.goes(True, [HILL], (), 33)
        self.goes(False, [HILL], (), 32)
        self.goes(False, [HILL], (), 0)
        self.goes(True, [((0, 0), (1, 0), (2, 0))], (), 1)
        self.goes(False, [((0, 0), (1, 0), (2, 0))], (), 0)
        self.goes(True, [((-1000, -1000), (1000, -1000), (1000, 1000))])

    def test_the_points_beside_are_equal(self):
        self.goes(False, [((0, 0), (1, 0), (0, 0), (5, 5))])

    def test_points_of_arcs(self):
        for p in grid(-1, 9):
            if p not in HILL:
                free = not is_in(p, HILL)
                self.goes(free, [HILL, (p, (50, 50))])
                self.goes(free, [HILL, ((50, 50), p, (60, 50))])
                self.goes(free, [HILL + ((50, 50), p, (60, 50))])
        for p in HILL[::2]:
            self.goes(True, [HILL, (p, (50, 50))])
            self.goes(True, [HILL, ((50, 50), p, (60, 60)), (p, (70, 50))])

    def test_another_place_of_the_point(self):
        self.goes(False, [HILL, ((4, 4), (50, 50))])
        self.goes(False, [HILL + ((50, 50), (4, 4))])
        self.goes(False, [HILL, HILL])
        self.goes(False, [((4, 4), (-5, 9), (0, 0), (4, 4), (8, 0))], place=3)

    def test_told_points(self):
        for p in grid(-1, 9):
            self.goes(p in HILL or not is_in(p, HILL), [HILL], (p,))
            self.goes(p in HILL or not is_in(p, HILL), [HILL], ((99, 99), p, p))

    def test_a_triangle_that_is_a_segment(self):
        between = ((0, 0), (4, 2), (8, 4))
        beyond = ((0, 0), (8, 4), (4, 2))
        for p in grid(-2, 10):
            on = 2 * p[1] == p[0] and 0 <= p[0] <= 8
            for arc in (between, beyond):
                self.goes(p in arc or not on, [arc], (p,))
                if p not in arc:
                    self.goes(not on, [arc, (p, (50, 90))])

    def test_neighbours(self):
        self.goes(False, [HILL, ((0, 0), (8, 0))])
        self.goes(False, [HILL, ((9, 9), (8, 0), (0, 0))])
        self.goes(True, [HILL, ((0, 0), (4, -9), (8, 0))])
        self.goes(False, [HILL + ((0, 0),)])
        self.goes(False, [HILL + ((0, 0), (5, 50))])

    def test_closed(self):
        triangle = ((0, 0), (1, -9), (8, 0), (0, 0))
        self.goes(False, [triangle], place=1)
        self.goes(False, [triangle], place=2)
        square = ((0, 0), (8, 0), (8, 8), (0, 8), (0, 0))
        for place in (1, 2, 3):
            self.goes(True, [square], place=place)
        # Four different places, but only three different points.
        self.goes(False, [((0, 0), (1, 5), (2, 0), (1, 5), (5, 5), (0, 0))], place=2)
        fold = ((0, 0), (9, 0), (9, 9), (9, 0), (0, 0))
        for place in (1, 2, 3):
            self.goes(False, [fold], place=place)

    def test_every_number_and_place(self):
        for value in NO_PLACES + ODD_VALUES:
            self.assertIs(can_go([HILL], (), MOST, 0, value), type(value) is int and value == 1)
            self.assertIs(can_go([HILL], (), MOST, value, 1), type(value) is int and value == 0)
            self.assertIs(can_go([], (), MOST, value, value), False)
        for place in (0, 2, -2, -1, 3):
            self.assertIs(can_go([HILL], (), MOST, 0, place), False)
        for number in (-1, 1, 2):
            self.assertIs(can_go([HILL], (), MOST, number, 1), False)

    def test_as_the_conditions_tell(self):
        seen = {}
        for arcs, told, threshold in some_calls(68, 500):
            for number, place in inner(arcs):
                why = reasons(arcs, told, threshold, number, place)
                seen[tuple(why)] = True
                self.assertIs(can_go(arcs, told, threshold, number, place), not why)
        for alone in [()] + [(number,) for number in range(1, 6)]:
            self.assertIn(alone, seen)

    def test_refused(self):
        self.refuses(can_go, ("arcs", [HILL], NO_TRACK_LISTS[::2]), ("told", (), NO_TOLD),
                     ("threshold", 5, NO_THRESHOLDS), ("number", 0, []), ("place", 1, []))


class SimplifiedTest(Case):

    def test_examples(self):
        self.same(simplified([LINE], (), 5), ([((0, 0), (4, 0), (6, 3), (8, 0))], [(0, 1)]))
        self.same(simplified([LINE], ((2, 0),), 5), ([LINE], []))
        self.assertIs(taken([LINE], (), 5, [(0, 2)]), None)

    def test_nothing(self):
        self.same(simplified([], (), MOST), ([], []))
        self.same(simplified([LINE, LOOP], (), 0), ([LINE, LOOP], []))
        self.same(simplified([((0, 0), (1, 1))], (), MOST), ([((0, 0), (1, 1))], []))

    def test_all(self):
        self.same(simplified([LINE], (), MOST), ([((0, 0), (8, 0))], [(0, 1), (0, 1), (0, 1)]))

    def test_equal_worths(self):
        first, second = ((0, 0), (2, 2), (4, 0)), ((0, 9), (2, 7), (4, 9))
        self.same(simplified([first, second], (), 9)[1], [(0, 1), (1, 1)])
        self.same(simplified([second, first], (), 9)[1], [(0, 1), (1, 1)])
        zigzag = ((0, 0), (1, 2), (2, 0), (3, 2), (4, 0))
        self.same(simplified([zigzag], (), 5)[1], [(0, 1), (0, 1)])
        self.same(simplified([((0, 0), (1, 5), (2, 0)), ((9, 0), (11, 1), (13, 0))], (), MOST)[1],
                  [(1, 1), (0, 1)])

    def test_the_least_worth_that_can_go(self):
        # The worth of the first point is the least one, but it has to wait for the second one.
        self.same(simplified([LINE], ((2, 0),), 9), ([((0, 0), (6, 3), (8, 0))], [(0, 2), (0, 1)]))
        self.same(simplified([LINE], ((2, 0), (4, 1)), 20)[1], [(0, 3), (0, 2)])

    def test_one_inner_point(self):
        self.same(simplified([HILL], (), 33), ([((0, 0), (8, 0))], [(0, 1)]))
        self.same(simplified([HILL, ((0, 0), (8, 0))], (), 33), ([HILL, ((0, 0), (8, 0))], []))
        # Both could go, but not both of them: then the ends would be joined twice.
        self.same(simplified([((0, 0), (4, -4), (8, 0)), HILL], (), 33),
                  ([((0, 0), (8, 0)), HILL], [(0, 1)]))

    def test_closed_arcs(self):
        triangle = ((0, 0), (8, 0), (4, 4), (0, 0))
        self.same(simplified([triangle], (), MOST), ([triangle], []))
        square = ((0, 0), (8, 0), (8, 8), (0, 8), (0, 0))
        self.same(simplified([square], (), MOST), ([((0, 0), (8, 8), (0, 8), (0, 0))], [(0, 1)]))
        self.same(simplified([square], ((5, 1),), MOST), ([((0, 0), (8, 0), (0, 8), (0, 0))], [(0, 2)]))

    def test_as_the_conditions_tell(self):
        longest = 0
        for arcs, told, threshold in some_calls(69, 250):
            found = simplified(arcs, told, threshold)
            self.same(found, simplified_by_reasons(arcs, told, threshold))
            longest = max(longest, len(found[1]))
        self.assertGreater(longest, 4)

    def test_what_follows(self):
        for arcs, told, threshold in some_calls(72, 200):
            found, steps = simplified(arcs, told, threshold)
            self.same(simplified(found, told, threshold), (found, []))
            self.same(taken(arcs, told, threshold, steps), found)
            for number, place in inner(found):
                self.assertIs(can_go(found, told, threshold, number, place), False)
            for arc, short in zip(arcs, found):
                self.assertEqual((arc[0], arc[-1]), (short[0], short[-1]))
                points = iter(arc)
                self.assertTrue(all(p in points for p in short))

    def test_twelve_lines(self):
        self.same(simplified(TWELVE, (), MOST), (TWELVE, []))
        self.bad("arcs", simplified, TWELVE + [LINE], (), MOST)

    def test_long_arcs(self):
        arcs = [tuple((x, 3 * k + (x * x) % 2) for x in range(40)) for k in range(12)]
        found, steps = simplified(arcs, (), MOST)
        self.assertEqual(len(steps), 12 * 38)
        self.same(found, [(arc[0], arc[-1]) for arc in arcs])

    def test_a_new_list(self):
        arcs = [LINE]
        found, steps = simplified(arcs, (), 5)
        found.append(None)
        steps.append(None)
        self.assertEqual(arcs, [LINE])
        self.same(simplified(arcs, (), 5), ([((0, 0), (4, 0), (6, 3), (8, 0))], [(0, 1)]))
        found = simplified(arcs, (), 0)[0]
        found.clear()
        self.assertEqual(arcs, [LINE])

    def test_refused(self):
        self.refuses(simplified, ("arcs", [HILL], NO_TRACK_LISTS[::2]), ("told", (), NO_TOLD),
                     ("threshold", 5, NO_THRESHOLDS))

    def test_thresholds(self):
        for threshold in (0, 1, MOST):
            simplified([HILL], (), threshold)
        for threshold in (-1, MOST + 1):
            self.bad("threshold", simplified, [HILL], (), threshold)

    def test_how_many_told_points(self):
        simplified([HILL], ((0, 0),) * 40, 5)
        self.bad("told", simplified, [HILL], ((0, 0),) * 41, 5)


class TakenTest(Case):

    def test_some(self):
        self.same(taken([LINE], (), MOST, []), [LINE])
        self.same(taken([LINE], (), MOST, [(0, 3)]), [LINE[:3] + LINE[4:]])
        self.same(taken([LINE], (), MOST, [(0, 3), (0, 1), (0, 1)]), [(LINE[0], LINE[-1])])
        self.same(taken([], (), MOST, []), [])

    def test_no_inner_points(self):
        for step in ((0, 0), (0, 4), (0, 5), (0, -1), (0, -2), (1, 1), (-1, 1), (0, 10 ** 20), (10 ** 20, 1)):
            self.assertIs(taken([LINE], (), MOST, [step]), None)
        self.assertIs(taken([LINE], (), MOST, [(0, 1), (0, 1), (0, 2)]), None)
        self.assertIs(taken([], (), MOST, [(0, 1)]), None)

    def test_all_steps_of_some_arcs(self):
        taken_ones = 0
        for arcs, told, threshold in some_calls(73, 120):
            for first in inner(arcs):
                if reasons(arcs, told, threshold, *first):
                    self.assertIs(taken(arcs, told, threshold, [first]), None)
                    continue
                after = without_step(arcs, first)
                self.same(taken(arcs, told, threshold, [first]), after)
                for second in inner(arcs):
                    wanted = None
                    if second in inner(after) and not reasons(after, told, threshold, *second):
                        wanted = without_step(after, second)
                        taken_ones += 1
                    self.same(taken(arcs, told, threshold, [first, second]), wanted)
        self.assertGreater(taken_ones, 20)

    def test_a_new_list(self):
        arcs, steps = [LINE], [(0, 1)]
        taken(arcs, (), 5, steps).clear()
        taken(arcs, (), 5, []).clear()
        self.assertEqual((arcs, steps), ([LINE], [(0, 1)]))

    def test_refused(self):
        self.refuses(taken, ("arcs", [HILL], NO_TRACK_LISTS[::4]), ("told", (), NO_TOLD[::2]),
                     ("threshold", 5, NO_THRESHOLDS), ("steps", [(0, 1)], NO_STEPS))


class KeptTest(Case):

    def test_after_any_steps(self):
        source = random.Random(71)
        gone = 0
        for lines in wide_maps(71, 25):
            arcs, ways = arcs_of(lines)
            if len(arcs) > 12:
                continue
            told = tuple({(source.randint(-2, 40), source.randint(-2, 40)) for _ in range(30)})
            after = arcs
            for _ in range(40):
                step = source.choice(inner(after) or [(0, 0)])
                after = taken(after, told, MOST, [step]) or after
            gone += sum(map(len, arcs)) - sum(map(len, after))
            self.assertTrue(edges_are_clean(after))
            edges = [frozenset(pair) for arc in after for pair in zip(arc, arc[1:])]
            self.assertEqual(len(edges), len(set(edges)))
            for way in ways:
                before, now = ring_of(joined(arcs, way)[:-1]), ring_of(joined(after, way)[:-1])
                for p in told:
                    if place_in(p, before) != "on" and not any(p in arc for arc in arcs):
                        self.same(place_in(p, now), place_in(p, before))
        self.assertGreater(gone, 100)


class SimplifiedLinesTest(Case):

    def test_some(self):
        self.same(simplified_lines([], (), 5), [])
        self.same(simplified_lines([LINE], (), 5), [((0, 0), (4, 0), (6, 3), (8, 0))])
        self.same(simplified_lines([LINE[::-1]], (), 5), [((8, 0), (6, 3), (4, 0), (0, 0))])

    def test_a_common_border(self):
        first = ((0, 0), (8, 0), (9, 4), (8, 8), (0, 8), (0, 0))
        second = ((8, 0), (20, 0), (20, 8), (8, 8), (9, 4), (8, 0))
        self.same(simplified_lines([first, second], (), 9), [
            ((8, 0), (8, 8), (0, 8), (0, 0), (8, 0)), ((8, 0), (20, 0), (20, 8), (8, 8), (8, 0))])

    def test_as_arcs_tell(self):
        for lines, told, threshold in some_calls(75, 200):
            arcs, ways = arcs_of(lines)
            found = simplified_lines(lines, told, threshold)
            if len(arcs) <= 12:
                short = simplified(arcs, told, threshold)[0]
                self.same(found, [joined(short, way) for way in ways])

    def test_more_than_twelve_arcs(self):
        crosses = [((2 * k, 1), (2 * k, 0), (2 * k, -1), (2 * k + 50, -90)) for k in range(1, 11)]
        street = tuple((x, 0) for x in range(1, 22))
        lines = crosses + [street]
        self.assertGreater(len(arcs_of(lines)[0]), 12)
        found = simplified_lines(lines, (), 1)
        self.same(found[-1], tuple((x, 0) for x in (1, 2, 4, 6, 8, 10, 12, 14, 16, 18, 20, 21)))
        self.same(found[:-1], crosses)
        short = simplified_by_reasons(arcs_of(lines)[0], (), 1)[0]
        self.assertEqual(sum(map(len, short)), sum(map(len, arcs_of(lines)[0])) - 9)

    def test_twelve_and_thirteen(self):
        self.same(simplified_lines(TWELVE, (), 5), TWELVE)
        self.bad("lines", simplified_lines, TWELVE + [LINE], (), 5)

    def test_a_new_list(self):
        lines = [LINE]
        simplified_lines(lines, (), 0).append(None)
        self.assertEqual(lines, [LINE])
        self.same(simplified_lines(lines, (), 0), [LINE])

    def test_refused(self):
        self.refuses(simplified_lines, ("lines", [HILL], NO_TRACK_LISTS[::2]), ("told", (), NO_TOLD),
                     ("threshold", 5, NO_THRESHOLDS))


if __name__ == "__main__":
    unittest.main()
