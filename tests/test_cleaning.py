"""Points 25 to 32 and 34 to 36: conflicts, rounding, cutting, cleaning."""

import itertools
import random
import unittest
from fractions import Fraction
from math import floor

from tests.test_crossings import all_segments, meeting_by_python
from tests.test_fractions import NO_FRACTIONS
from tests.test_sides import NO_LINES, NO_SEGMENTS
from tests.tools import Case, moved, segment_by, shuffled, some_segments, without
from trueatlas.cleaning import cleaned, cleaned_lines, conflicts, cut_once, is_clean, rounded
from trueatlas.errors import TooLarge

FIRST = ((0, 0), (3, 1))
SECOND = ((0, 1), (2, 0))
PAIR = (FIRST, SECOND)
FORTY = tuple(((0, k), (9, k)) for k in range(40))
# Odd for all others, these are tuples of segments and of lines.
RIGHT_TUPLES = ((), (((0, 0), (1, 0)),))
NO_TUPLES = without(*RIGHT_TUPLES) + [
    list(PAIR), FIRST, FORTY + (((0, 40), (9, 40)),), FORTY + (FORTY[0],), PAIR + (None,), PAIR + (((1, 1), (0, 0)),),
    PAIR + ([(0, 0), (1, 1)],), PAIR + (((0, 0), (True, 1)),),
] + [(value,) for value in NO_SEGMENTS]
SQUARE_LINE = ((0, 0), (4, 0), (4, 4), (0, 4), (0, 0))
ELEVEN = tuple(((0, k), (9, k)) for k in range(11))
LONG = tuple((k, 0) for k in range(39))
NO_LINE_TUPLES = without(*RIGHT_TUPLES) + [
    ELEVEN, list(ELEVEN[:2]), (LONG, SQUARE_LINE), ELEVEN[:2] + (LONG + ((0, 5),),), SQUARE_LINE, (SQUARE_LINE, None),
    (SQUARE_LINE, [(0, 0), (1, 1)]),
] + [(line,) for line in NO_LINES]


def half_up(number):
    """The whole number to which a fraction of Python's is rounded."""
    return floor(number + Fraction(1, 2))


def cuts_by_python(edge, edges):
    """The cuts of a segment in the order of its way."""
    cuts = []
    for other in edges:
        found = meeting_by_python(edge, other)
        if other == edge:
            continue
        if found[0] == "cross":
            cuts.append((half_up(Fraction(*found[1])), half_up(Fraction(*found[2]))))
        else:
            cuts.extend(found[1:])
    falls = edge[1][1] < edge[0][1]
    return sorted({p for p in cuts if p not in edge}, key=lambda p: (p[0], -p[1] if falls else p[1]))


def round_by_python(edges):
    """What different segments become in one round: rows of points, and the segments that come."""
    rows = {edge: (edge[0],) + tuple(cuts_by_python(edge, edges)) + (edge[1],) for edge in edges}
    pairs = [pair for row in rows.values() for pair in zip(row, row[1:])]
    return rows, sorted({(min(pair), max(pair)) for pair in pairs})


def cleaned_by_python(segments):
    """The cleaning, round by round."""
    edges = sorted(set(segments))
    chains = [list(segment) for segment in segments]
    rounds = 0
    while True:
        rows, coming = round_by_python(edges)
        if all(len(row) == 2 for row in rows.values()):
            return (tuple(edges), tuple(tuple(chain) for chain in chains), rounds)
        for at, chain in enumerate(chains):
            longer = [chain[0]]
            for p, q in zip(chain, chain[1:]):
                longer += rows[(p, q)][1:] if p < q else rows[(q, p)][-2::-1]
            chains[at] = longer
        edges = coming
        rounds += 1


def is_within(p, segment, half):
    """Whether a point of the segment differs from p by at most this much, with Python's fractions."""
    low, high = Fraction(0), Fraction(1)
    for k in (0, 1):
        start, way = segment[0][k], segment[1][k] - segment[0][k]
        if way == 0:
            if abs(p[k] - start) > half:
                return False
            continue
        ends = sorted([(p[k] - half - start) / Fraction(way), (p[k] + half - start) / Fraction(way)])
        low, high = max(low, ends[0]), min(high, ends[1])
    return low <= high


def some_sets():
    """Sets of segments of several kinds: crowded and sparse, whole and not whole crossings."""
    source = random.Random(25)
    for many, reach in ((2, 2), (3, 2), (4, 3), (6, 4), (8, 9), (10, 30), (12, 1000), (12, 6)):
        for _ in range(12):
            yield some_segments(source, many, reach)


class ConflictTest(Case):

    def test_kinds(self):
        row = ((0, 0), (4, 0))
        for other, wanted in (
                (((0, 1), (4, 1)), []), (((4, 0), (5, 5)), []), (((4, 0), (9, 0)), []), (((0, 0), (4, 1)), []),
                (((2, 0), (2, 5)), [(0, 1)]), (((2, -1), (2, 5)), [(0, 1)]), (((1, 0), (3, 0)), [(0, 1)]),
                (((0, 0), (2, 0)), [(0, 1)]), (((0, 0), (4, 0)), [(0, 1)]), (((3, 0), (9, 0)), [(0, 1)]),
                (((2, -1), (3, 5)), [(0, 1)]), (((4, -1), (4, 1)), [(0, 1)]), (((0, -1), (0, 1)), [(0, 1)])):
            self.same(conflicts((row, other)), wanted)
            self.same(conflicts((other, row)), wanted)
            self.assertIs(is_clean((row, other)), not wanted)
            self.assertIs(is_clean((other, row)), not wanted)

    def test_order_of_pairs(self):
        rows = (((0, 0), (4, 0)), ((1, -1), (1, 1)), ((2, -1), (2, 1)), ((0, 0), (4, 0)), ((8, 8), (9, 9)))
        self.same(conflicts(rows), [(0, 1), (0, 2), (0, 3), (1, 3), (2, 3)])

    def test_none(self):
        self.same(conflicts(()), [])
        self.assertIs(is_clean(()), True)
        self.same(conflicts((FIRST,)), [])
        self.assertIs(is_clean((FIRST,)), True)
        self.same(conflicts(FORTY), [])
        self.assertIs(is_clean(FORTY), True)

    def test_equal_ones(self):
        self.same(conflicts((FIRST, FIRST, FIRST)), [(0, 1), (0, 2), (1, 2)])
        self.assertIs(is_clean((FIRST, FIRST)), False)

    def test_as_meetings_tell(self):
        for rows in some_sets():
            wanted = []
            for i, j in itertools.combinations(range(len(rows)), 2):
                found = meeting_by_python(rows[i], rows[j])
                ends = [p for p in rows[i] if p in rows[j]]
                if found[0] in ("cross", "overlap") or found[0] == "touch" and found[1] not in ends:
                    wanted.append((i, j))
            self.same(conflicts(rows), wanted)
            self.assertIs(is_clean(rows), not wanted)

    def test_all_small_ones(self):
        rows = all_segments(0, 2)
        for first in rows:
            for second in rows:
                self.assertIs(is_clean((first, second)), conflicts((first, second)) == [])
                self.assertIs(is_clean((first, second)), conflicts((second, first)) == [])

    def test_a_returned_list_is_not_used_again(self):
        conflicts(PAIR).clear()
        conflicts(PAIR).append(None)
        self.same(conflicts(PAIR), [(0, 1)])

    def test_refused(self):
        for call in (conflicts, is_clean, cut_once, cleaned):
            self.refuses(call, ("segments", PAIR, NO_TUPLES))


class RoundedTest(Case):

    def test_some(self):
        self.same(rounded((6, 5), (2, 5)), (1, 0))
        self.same(rounded((1, 2), (-1, 2)), (1, 0))
        self.same(rounded((3, 2), (-3, 2)), (2, -1))
        self.same(rounded((7, 1), (-7, 1)), (7, -7))
        self.same(rounded((0, 1), (0, 1)), (0, 0))
        self.same(rounded((499, 1000), (501, 1000)), (0, 1))
        self.same(rounded((-499, 1000), (-501, 1000)), (0, -1))
        self.same(rounded((5001, 2), (10 ** 20, 3)), (2501, 10 ** 20 // 3))

    def test_as_python_tells(self):
        for n in range(-30, 31):
            for d in range(1, 9):
                number = Fraction(n, d)
                told = (number.numerator, number.denominator)
                self.same(rounded(told, (9, 2)), (half_up(number), 5))
                self.same(rounded((9, 2), told), (5, half_up(number)))

    def test_refused(self):
        self.refuses(rounded, ("x", (6, 5), NO_FRACTIONS), ("y", (2, 5), NO_FRACTIONS))


class CutOnceTest(Case):

    def test_example(self):
        self.same(cut_once(PAIR), (((0, 0), (1, 0)), ((0, 1), (1, 0)), ((1, 0), (2, 0)), ((1, 0), (3, 1))))

    def test_kinds(self):
        row = ((0, 0), (4, 0))
        self.same(cut_once((row, ((2, 0), (2, 5)))), (((0, 0), (2, 0)), ((2, 0), (2, 5)), ((2, 0), (4, 0))))
        self.same(cut_once((((1, 0), (6, 0)), row)), (((0, 0), (1, 0)), ((1, 0), (4, 0)), ((4, 0), (6, 0))))
        self.same(cut_once((((1, 0), (2, 0)), row)), (((0, 0), (1, 0)), ((1, 0), (2, 0)), ((2, 0), (4, 0))))
        self.same(cut_once((row, ((4, 0), (5, 5)))), (row, ((4, 0), (5, 5))))

    def test_different_ones_ascending(self):
        self.same(cut_once((SECOND, FIRST, SECOND, FIRST)), cut_once(PAIR))
        self.same(cut_once((FIRST, FIRST)), (FIRST,))
        self.same(cut_once(()), ())
        self.same(cut_once(FORTY[::-1]), FORTY)

    def test_a_falling_segment_with_cuts_at_one_x(self):
        steep = ((0, 9), (1, 0))
        rows = (steep, ((-1, 7), (2, 7)), ((-1, 6), (2, 6)))
        self.same(cut_once(rows), (
            ((-1, 6), (0, 6)), ((-1, 7), (0, 7)), ((0, 6), (0, 7)), ((0, 6), (1, 0)), ((0, 6), (2, 6)),
            ((0, 7), (0, 9)), ((0, 7), (2, 7))))

    def test_a_rising_segment_with_cuts_at_one_x(self):
        steep = ((0, 0), (1, 9))
        rows = (steep, ((-1, 2), (2, 2)), ((-1, 3), (2, 3)))
        self.same(cut_once(rows), (
            ((-1, 2), (0, 2)), ((-1, 3), (0, 3)), ((0, 0), (0, 2)), ((0, 2), (0, 3)), ((0, 2), (2, 2)),
            ((0, 3), (1, 9)), ((0, 3), (2, 3))))

    def test_as_python_tells(self):
        for rows in some_sets():
            self.same(cut_once(rows), tuple(round_by_python(sorted(set(rows)))[1]))

    def test_once_is_not_always_enough(self):
        again = 0
        for rows in some_sets():
            once = cut_once(rows)
            if len(once) <= 40:
                again += cut_once(once) != once
        self.assertGreater(again, 0)


class CleanedTest(Case):

    def test_example(self):
        self.same(cleaned((SECOND, FIRST)), (
            (((0, 0), (1, 0)), ((0, 1), (1, 0)), ((1, 0), (2, 0)), ((1, 0), (3, 1))),
            (((0, 1), (1, 0), (2, 0)), ((0, 0), (1, 0), (3, 1))), 1))

    def test_nothing_to_cut(self):
        self.same(cleaned(()), ((), (), 0))
        self.same(cleaned((FIRST,)), ((FIRST,), (FIRST,), 0))
        self.same(cleaned((FIRST, FIRST)), ((FIRST,), (FIRST, FIRST), 0))
        self.same(cleaned(FORTY[::-1]), (FORTY, FORTY[::-1], 0))

    def test_overlaps(self):
        rows = (((0, 0), (6, 0)), ((2, 0), (9, 0)), ((0, 0), (6, 0)))
        self.same(cleaned(rows), (
            (((0, 0), (2, 0)), ((2, 0), (6, 0)), ((6, 0), (9, 0))),
            (((0, 0), (2, 0), (6, 0)), ((2, 0), (6, 0), (9, 0)), ((0, 0), (2, 0), (6, 0))), 1))

    def test_halves(self):
        rows = (((0, 0), (1, 1)), ((0, 1), (1, 0)))
        self.same(cleaned(rows), (
            (((0, 0), (1, 1)), ((0, 1), (1, 1)), ((1, 0), (1, 1))),
            (((0, 0), (1, 1)), ((0, 1), (1, 1), (1, 0))), 1))

    def test_several_rounds(self):
        rounds = {}
        for rows in some_sets():
            told = cleaned(rows)
            rounds.setdefault(told[2], told)
            self.same(told, cleaned_by_python(rows))
        self.assertGreaterEqual(max(rounds), 2)
        self.assertIn(0, rounds)

    def test_three_rounds(self):
        rows = (((0, 2), (4, -3)), ((-2, 2), (4, -1)), ((-4, 0), (4, 2)), ((-2, 1), (4, -1)))
        edges, chains, rounds = cleaned(rows)
        self.same((edges, chains, rounds), cleaned_by_python(rows))
        self.same(rounds, 3)
        self.same(cut_once(cut_once(cut_once(rows))), edges)
        self.same(chains[1], ((-2, 2), (0, 1), (1, 1), (1, 0), (2, 0), (4, -1)))

    def test_what_cleaning_promises(self):
        for rows in some_sets():
            edges, chains, rounds = cleaned(rows)
            pairs = [pair for chain in chains for pair in zip(chain, chain[1:])]
            self.assertEqual(sorted({(min(pair), max(pair)) for pair in pairs}), list(edges))
            self.assertEqual(sorted(set(edges)), list(edges))
            for first, second in itertools.combinations(edges, 2):
                found = meeting_by_python(first, second)
                self.assertIn(found[0], ("none", "touch"))
                self.assertTrue(found[0] == "none" or found[1] in first and found[1] in second)
            for segment, chain in zip(rows, chains):
                self.check_chain(segment, chain, rounds)

    def check_chain(self, segment, chain, rounds):
        (ax, ay), (bx, by) = segment
        self.assertEqual((chain[0], chain[-1]), segment)
        ways = list(zip(chain, chain[1:]))
        self.assertEqual(sum(abs(p[0] - q[0]) + abs(p[1] - q[1]) for p, q in ways), bx - ax + abs(by - ay))
        for p, q in ways:
            self.assertNotEqual(p, q)
            self.assertLessEqual(p[0], q[0])
            self.assertTrue(p[1] <= q[1] if ay <= by else p[1] >= q[1])
        for p in chain:
            self.assertTrue(is_within(p, segment, Fraction(rounds, 2)))

    def test_whole_crossings_need_one_round(self):
        source = random.Random(31)
        for _ in range(20):
            rows = [((a, b), (c, b)) for a, c, b in [sorted(source.sample(range(9), 3)) for _ in range(5)]]
            rows += [((b, a), (b, c)) for a, c, b in [sorted(source.sample(range(9), 3)) for _ in range(5)]]
            edges, chains, rounds = cleaned(tuple(rows))
            self.assertLessEqual(rounds, 1)
            self.assertEqual(rounds == 0, list(edges) == sorted(set(rows)))
            for segment, chain in zip(rows, chains):
                for p in chain:
                    self.assertTrue(is_within(p, segment, Fraction(0)))

    def test_again_and_in_another_order(self):
        for seed, rows in enumerate(some_sets()):
            edges, chains, rounds = cleaned(rows)
            if len(edges) <= 40:
                self.same(cleaned(edges), (edges, edges, 0))
                self.assertIs(is_clean(edges), True)
                self.same(cut_once(edges), edges)
            again = shuffled(rows + rows[:2], seed)
            self.same(cleaned(tuple(again)), (edges, tuple(chains[rows.index(one)] for one in again), rounds))

    def test_moved(self):
        for rows in some_sets():
            rows = tuple(((a // 2, b // 2), (c // 2, d // 2)) for (a, b), (c, d) in rows)
            rows = tuple(row for row in rows if row[0] < row[1])
            edges, chains, rounds = cleaned(rows)
            self.same(cleaned(tuple(segment_by(moved, row) for row in rows)), (
                tuple(segment_by(moved, edge) for edge in edges),
                tuple(tuple(moved(p) for p in chain) for chain in chains), rounds))

    def test_chains_that_keep_x_or_y(self):
        rows = (((0, 0), (0, 9)), ((-2, 3), (2, 3)), ((-2, 7), (2, 7)), ((0, 5), (0, 8)), ((-3, 0), (5, 0)))
        told = cleaned(rows)
        self.same(told[1][0], ((0, 0), (0, 3), (0, 5), (0, 7), (0, 8), (0, 9)))
        self.same(told[1][4], ((-3, 0), (0, 0), (5, 0)))

    def test_a_chain_that_falls_straight_down(self):
        rows = (((0, 9), (1, 0)), ((-1, 7), (2, 7)), ((-1, 6), (2, 6)))
        self.same(cleaned(rows)[1][0], ((0, 9), (0, 7), (0, 6), (1, 0)))

    def test_an_upright_piece_that_is_cut_again(self):
        found = 0
        for rows in some_sets():
            chains = cleaned(rows)[1]
            first = {edge: chain for edge, chain in zip(rows, [
                (edge[0],) + tuple(cuts_by_python(edge, sorted(set(rows)))) + (edge[1],) for edge in rows])}
            for edge, chain in zip(rows, chains):
                for p, q in zip(first[edge], first[edge][1:]):
                    if p > q and chain.index(q) - chain.index(p) > 1:
                        found += 1
        self.assertGreater(found, 0)


class TooLargeTest(Case):

    def crossing(self, beside):
        """13 rows and 14 columns are cut to 391 segments; others stand beside them."""
        rows = tuple(((0, 2 * k + 1), (30, 2 * k + 1)) for k in range(13))
        columns = tuple(((2 * k + 1, 0), (2 * k + 1, 28)) for k in range(14))
        return rows + columns + tuple(((50, k), (60, k)) for k in range(beside))

    def test_four_hundred(self):
        rows = self.crossing(9)
        self.assertEqual(len(cut_once(rows)), 400)
        self.assertEqual(len(cleaned(rows)[0]), 400)
        self.assertEqual(cleaned(rows)[2], 1)

    def test_more(self):
        for call in (cut_once, cleaned):
            with self.assertRaises(TooLarge) as caught:
                call(self.crossing(10))
            self.same(caught.exception.what, "edges")

    def test_lines(self):
        wide = tuple((-50 + 200 * (k % 2), 4 * k) for k in range(21))
        high = tuple((4 * k, -50 + 200 * (k % 2)) for k in range(21))
        self.assertLessEqual(len(cleaned_lines((wide[:10], high[:10]))[0]), 400)
        with self.assertRaises(TooLarge) as caught:
            cleaned_lines((wide, high))
        self.same(caught.exception.what, "edges")

    def test_in_a_later_round(self):
        more = tuple(((a + 100, b), (c + 100, d)) for (a, b), (c, d) in (
            ((-1, -6), (0, 3)), ((1, 0), (5, 0)), ((-5, -5), (6, 5))))
        self.assertEqual((len(cut_once(more)), len(cleaned(more)[0])), (5, 6))
        rows = self.crossing(4) + more
        self.assertEqual(len(cut_once(rows)), 400)
        with self.assertRaises(TooLarge) as caught:
            cleaned(rows)
        self.same(caught.exception.what, "edges")
        self.assertEqual(len(cleaned(self.crossing(3) + more)[0]), 400)

    def test_bad_value_comes_first(self):
        self.bad("segments", cut_once, self.crossing(14))
        self.bad("segments", cleaned, self.crossing(10) + (None,))


class CleanedLinesTest(Case):

    def test_example(self):
        self.same(cleaned_lines((((4, 0), (0, 0), (0, 4)), ((2, -1), (2, 1)))), (
            (((0, 0), (0, 4)), ((0, 0), (2, 0)), ((2, -1), (2, 0)), ((2, 0), (2, 1)), ((2, 0), (4, 0))),
            [((4, 0), (2, 0), (0, 0), (0, 4)), ((2, -1), (2, 0), (2, 1))]))

    def test_none(self):
        self.same(cleaned_lines(()), ((), []))

    def test_a_line_back_upon_itself(self):
        self.same(cleaned_lines((((0, 0), (4, 0), (2, 0)),)), (
            (((0, 0), (2, 0)), ((2, 0), (4, 0))), [((0, 0), (2, 0), (4, 0), (2, 0))]))
        self.same(cleaned_lines((((0, 0), (4, 0), (0, 0)),)), (
            (((0, 0), (4, 0)),), [((0, 0), (4, 0), (0, 0))]))

    def test_a_line_across_itself(self):
        edges, rows = cleaned_lines((((0, 0), (4, 4), (4, 0), (0, 4)),))
        self.same(rows, [((0, 0), (2, 2), (4, 4), (4, 0), (2, 2), (0, 4))])
        self.same(edges, (((0, 0), (2, 2)), ((0, 4), (2, 2)), ((2, 2), (4, 0)), ((2, 2), (4, 4)), ((4, 0), (4, 4))))

    def test_as_the_chains_of_the_edges(self):
        source = random.Random(34)
        for many in (1, 2, 5, 8):
            for _ in range(8):
                lines = []
                for _ in range(many):
                    points = [(source.randint(-6, 6), source.randint(-6, 6)) for _ in range(5)]
                    lines.append(tuple(p for k, p in enumerate(points) if k == 0 or p != points[k - 1]))
                lines = tuple(line for line in lines if len(line) > 1)
                self.check_lines(lines)

    def check_lines(self, lines):
        ways = [[(p, q) for p, q in zip(line, line[1:])] for line in lines]
        segments = tuple((min(way), max(way)) for row in ways for way in row)
        edges, chains, _ = cleaned(segments)
        chain_of = dict(zip(segments, chains))
        wanted = []
        for line, row in zip(lines, ways):
            points = [line[0]]
            for p, q in row:
                points.extend(chain_of[(p, q)][1:] if p < q else chain_of[(q, p)][::-1][1:])
            wanted.append(tuple(points))
        self.same(cleaned_lines(lines), (edges, wanted))

    def test_bounds(self):
        self.assertEqual(len(cleaned_lines(ELEVEN[:10])[1]), 10)
        short = ((0, 5), (1, 5), (2, 5))
        self.assertEqual(len(cleaned_lines((LONG, short))[0]), 40)
        self.bad("lines", cleaned_lines, (LONG, short + ((3, 5),)))
        self.bad("lines", cleaned_lines, ELEVEN)

    def test_a_returned_list_is_not_used_again(self):
        lines = (((0, 0), (4, 0)),)
        cleaned_lines(lines)[1].clear()
        self.same(cleaned_lines(lines)[1], [((0, 0), (4, 0))])

    def test_refused(self):
        self.refuses(cleaned_lines, ("lines", (SQUARE_LINE,), NO_LINE_TUPLES))


if __name__ == "__main__":
    unittest.main()
