"""Points 63 to 66, 73 and 74: arcs, ways, and lines joined again."""

import itertools
import random
import unittest

from tests.test_sides import NO_LINES
from tests.tools import Case, ODD_VALUES, shuffled, without
from trueatlas.arcs import arcs_of, joined

LINE = ((0, 0), (2, 1), (4, 0), (6, 3), (8, 0))
LOOP = ((3, 0), (6, 3), (3, 6), (0, 3), (3, 0))
ROAD = ((0, 0), (1, 0), (2, 0), (3, 0))
SIDE = ((9, 9), (2, 0), (1, 0), (0, 5))
NO_TRACKS = NO_LINES + [((0, 0), (1, 0), (0, 0)), ((0, 0), (1, 0), (0, 0), (1, 0), (0, 0))]
TWELVE = [((k, 0), (k, 9)) for k in range(12)]
NO_TRACK_LISTS = without([]) + [[value] for value in NO_TRACKS] + [
    [LINE, value] for value in NO_TRACKS[::4]] + [(LINE,), (), LINE, tuple(TWELVE), TWELVE + [LINE], [TWELVE], [[LINE]]]
ARCS = [((0, 0), (1, 0)), ((5, 5), (1, 0)), ((5, 5), (7, 7), (9, 5), (5, 5))]
NO_WAYS = ODD_VALUES + [
    [(0, True)], ([0, True],), ((0, True, 1),), ((0,),), ((0, 1),), ((0, 0),), ((0, None),), ((0, "True"),),
    ((True, True),), ((False, True),), ((3, True),), ((-1, True),), ((0.0, True),), ((None, True),), (0, True),
    ((0, True), (1, True)), ((0, False), (1, True)), ((0, True), (0, True)), ((1, True), (1, True)),
    ((0, True), (1, False), (1, False)), ((0, True), None), ((0, True), (1, False), (3, True)), ((2, True), (0, True)),
]


def is_loop(line):
    return line[0] == line[-1]


def places(line):
    """The points before, at and after each place of a line."""
    if is_loop(line):
        many = len(line) - 1
        return [(line[(k - 1) % many], line[k], line[(k + 1) % many]) for k in range(many)]
    return [(line[k - 1] if k else None, p, line[k + 1] if k + 1 < len(line) else None) for k, p in enumerate(line)]


def is_junction(p, lines):
    """Whether a point is a junction, by each of the four reasons of the document."""
    rows = [[place for place in places(line) if place[1] == p] for line in lines]
    around = {q for row in rows for before, _, after in row for q in (before, after)} - {None}
    at_end = any(p in (line[0], line[-1]) for line in lines if not is_loop(line))
    twice = any(len(row) > 1 for row in rows)
    back = any(before == after for row in rows for before, _, after in row)
    return at_end or twice or len(around) != 2 or back


def rows_by_points(line, lines):
    """The rows of a line, found by going from point to point."""
    if not is_loop(line):
        rows = [[line[0]]]
        for p in line[1:]:
            rows[-1].append(p)
            if is_junction(p, lines):
                rows.append([p])
        return [tuple(row) for row in rows[:-1]]
    points = list(line[:-1])
    marked = [p for p in points if is_junction(p, lines)]
    first = points.index(marked[0] if marked else min(points))
    points = points[first:] + points[:first + 1]
    rows = [[points[0]]]
    for p in points[1:]:
        rows[-1].append(p)
        if p in marked:
            rows.append([p])
    return [tuple(row) for row in rows if len(row) > 1]


def arcs_by_points(lines):
    """The arcs and the ways, found by going from point to point."""
    rows = [rows_by_points(line, lines) for line in lines]
    arcs = sorted({min(row, row[::-1]) for own in rows for row in own})
    ways = [tuple((arcs.index(min(row, row[::-1])), min(row, row[::-1]) == row) for row in own) for own in rows]
    return arcs, ways


def some_line(source, reach, most):
    """A line of few places, open or closed."""
    while True:
        points = [(source.randint(0, reach), source.randint(0, reach)) for _ in range(source.randint(2, most))]
        if source.random() < 0.5:
            points.append(points[0])
        if any(p == q for p, q in zip(points, points[1:])) or len(points) < 2:
            continue
        if points[0] != points[-1] or len(set(points)) > 2:
            return tuple(points)


def some_line_lists(seed, many):
    """Lists of lines that share much: parts of one another, turned around and begun elsewhere."""
    source = random.Random(seed)
    for _ in range(many):
        lines = [some_line(source, source.choice((1, 2, 3)), source.choice((3, 6, 9)))
                 for _ in range(source.randint(0, 4))]
        for line in list(lines):
            if source.random() < 0.4:
                i, j = sorted(source.sample(range(len(line) + 1), 2))
                part = line[i:j][::source.choice((1, -1))]
                if len(part) > 1 and (part[0] != part[-1] or len(set(part)) > 2):
                    lines.append(part)
            if is_loop(line) and source.random() < 0.4:
                k = source.randrange(len(line) - 1)
                again = line[:-1][k:] + line[:-1][:k + 1]
                lines.append(again[::source.choice((1, -1))])
        yield lines


class ArcsOfTest(Case):

    def test_example(self):
        arcs, ways = arcs_of([ROAD, SIDE])
        self.same(ways, [((0, True), (2, True), (3, True)), ((4, False), (2, False), (1, False))])
        self.same(arcs, [((0, 0), (1, 0)), ((0, 5), (1, 0)), ((1, 0), (2, 0)), ((2, 0), (3, 0)), ((2, 0), (9, 9))])

    def test_no_lines(self):
        self.same(arcs_of([]), ([], []))

    def test_one_open_line(self):
        self.same(arcs_of([LINE]), ([LINE], [((0, True),)]))
        self.same(arcs_of([LINE[::-1]]), ([LINE], [((0, False),)]))
        self.same(arcs_of([LINE, LINE[::-1]]), ([LINE], [((0, True),), ((0, False),)]))

    def test_closed_without_a_junction(self):
        least = ((0, 3), (3, 0), (6, 3), (3, 6), (0, 3))
        self.same(arcs_of([LOOP]), ([least], [((0, True),)]))
        self.same(arcs_of([LOOP[::-1]]), ([least], [((0, False),)]))
        self.same(arcs_of([LOOP[1:] + LOOP[1:2], LOOP]), ([least], [((0, True),), ((0, True),)]))

    def test_a_junction_at_the_first_point(self):
        arcs, ways = arcs_of([LOOP, ((3, -9), (3, 0), (9, -9))])
        self.same(arcs, [((3, -9), (3, 0)), ((3, 0), (0, 3), (3, 6), (6, 3), (3, 0)), ((3, 0), (9, -9))])
        self.same(ways, [((1, False),), ((0, True), (2, True))])

    def test_a_junction_elsewhere(self):
        arcs, ways = arcs_of([LOOP, ((3, 6), (3, 9))])
        self.same(arcs, [((3, 6), (0, 3), (3, 0), (6, 3), (3, 6)), ((3, 6), (3, 9))])
        self.same(ways, [((0, True),), ((1, True),)])

    def test_two_closed_lines_with_a_common_side(self):
        first = ((0, 0), (4, 0), (4, 2), (4, 4), (0, 4), (0, 0))
        second = ((4, 0), (8, 0), (8, 4), (4, 4), (4, 2), (4, 0))
        arcs, ways = arcs_of([first, second])
        self.same(arcs, [((4, 0), (0, 0), (0, 4), (4, 4)), ((4, 0), (4, 2), (4, 4)), ((4, 0), (8, 0), (8, 4), (4, 4))])
        self.same(ways, [((1, True), (0, False)), ((2, True), (1, False))])

    def test_where_a_line_turns_back(self):
        self.same(arcs_of([((0, 0), (1, 0), (2, 0), (1, 0), (0, 5))]), (
            [((0, 0), (1, 0)), ((0, 5), (1, 0)), ((1, 0), (2, 0))],
            [((0, True), (2, True), (2, False), (1, False))]))
        turning = ((0, 0), (4, 0), (2, 2), (4, 4), (2, 2), (0, 0))
        self.same(arcs_of([turning]), (
            [((2, 2), (0, 0), (4, 0), (2, 2)), ((2, 2), (4, 4))], [((1, True), (1, False), (0, True))]))
        # (9, 0) has two neighbours in all, but at its place in each line only one.
        arcs, ways = arcs_of([((5, 0), (9, 0), (5, 0)) + ((5, 5),), ((7, 1), (9, 0), (7, 1)) + ((7, 7),)])
        self.same(ways, [((1, True), (1, False), (0, True)), ((3, True), (3, False), (2, True))])
        self.same(arcs, [((5, 0), (5, 5)), ((5, 0), (9, 0)), ((7, 1), (7, 7)), ((7, 1), (9, 0))])

    def test_a_point_twice_in_a_line(self):
        eight = ((0, 0), (2, 2), (4, 4), (4, 0), (2, 2), (0, 4), (0, 0))
        self.same(arcs_of([eight]), (
            [((2, 2), (0, 0), (0, 4), (2, 2)), ((2, 2), (4, 0), (4, 4), (2, 2))], [((1, False), (0, False))]))
        # Both neighbours of (1, 0) and of (2, 0) are the same at both places, but each stands twice in the line.
        again = ((0, 0), (1, 0), (2, 0), (0, 0), (1, 0), (2, 0), (0, 0))
        self.same(arcs_of([again]), (
            [((0, 0), (1, 0)), ((0, 0), (2, 0)), ((1, 0), (2, 0))], [((0, True), (2, True), (1, False)) * 2]))

    def test_there_and_back(self):
        there = ((0, 0), (5, 0), (5, 5), (0, 5), (0, 0))
        arcs, ways = arcs_of([there, there[::-1], ((0, 0), (-5, 0))])
        self.same(arcs, [((-5, 0), (0, 0)), ((0, 0), (0, 5), (5, 5), (5, 0), (0, 0))])
        self.same(ways, [((1, False),), ((1, True),), ((0, False),)])

    def test_two_lines_with_the_same_edges(self):
        arcs, ways = arcs_of([LOOP, LOOP[:3], LOOP[2:]])
        self.same(arcs, [((3, 0), (0, 3), (3, 6)), ((3, 0), (6, 3), (3, 6))])
        self.same(ways, [((1, True), (0, False)), ((1, True),), ((0, False),)])

    def test_as_points_tell(self):
        many = 0
        for lines in some_line_lists(65, 500):
            found = arcs_of(lines)
            self.same(found, tuple(arcs_by_points(lines)))
            many = max(many, len(found[0]))
        self.assertGreater(many, 12)

    def test_joined_again(self):
        for lines in some_line_lists(66, 300):
            arcs, ways = arcs_of(lines)
            if len(arcs) > 12:
                continue
            for line, way in zip(lines, ways):
                again = joined(arcs, way)
                if is_loop(line):
                    points = line[:-1]
                    turns = [points[k:] + points[:k + 1] for k in range(len(points))]
                    self.assertIn(again, turns)
                else:
                    self.same(again, line)

    def test_no_edge_in_two_arcs(self):
        for lines in some_line_lists(67, 200):
            arcs, _ = arcs_of(lines)
            edges = [frozenset(pair) for arc in arcs for pair in zip(arc, arc[1:])]
            self.assertEqual(len(edges), len(set(edges)))

    def test_the_order_of_the_lines(self):
        for seed, lines in enumerate(some_line_lists(68, 100)):
            arcs, ways = arcs_of(lines)
            order = shuffled(range(len(lines)), seed)
            again = arcs_of([lines[k] for k in order])
            self.same(again, (arcs, [ways[k] for k in order]))

    def test_how_many_lines(self):
        self.assertEqual(len(arcs_of(TWELVE)[0]), 12)
        self.bad("lines", arcs_of, TWELVE + [LINE])

    def test_a_new_list(self):
        lines = [ROAD, SIDE]
        before = repr(lines)
        arcs, ways = arcs_of(lines)
        wanted = repr((arcs, ways))
        arcs.clear()
        ways.append(None)
        self.same(arcs_of(lines), eval(wanted))
        self.assertEqual(repr(lines), before)

    def test_refused(self):
        self.refuses(arcs_of, ("lines", [LINE, LOOP], NO_TRACK_LISTS))


class JoinedTest(Case):

    def test_example(self):
        self.same(joined(ARCS[:2], ((0, True), (1, False))), ((0, 0), (1, 0), (5, 5)))

    def test_some(self):
        self.same(joined(ARCS, ((0, True),)), ((0, 0), (1, 0)))
        self.same(joined(ARCS, ((0, False),)), ((1, 0), (0, 0)))
        self.same(joined(ARCS, ((1, True), (1, False))), ((5, 5), (1, 0), (5, 5)))
        self.same(joined(ARCS, ((2, True), (2, False), (1, True), (0, False))),
                  ((5, 5), (7, 7), (9, 5), (5, 5), (9, 5), (7, 7), (5, 5), (1, 0), (0, 0)))

    def test_an_arc_that_is_the_same_backwards(self):
        arc = ((0, 0), (1, 0), (2, 0), (1, 0), (0, 0))
        self.same(joined([arc], ((0, True),)), arc)
        self.same(joined([arc], ((0, False), (0, True))), arc + arc[1:])

    def test_long_ways(self):
        self.assertEqual(len(joined(ARCS, ((2, True),) * 100)), 301)

    def test_forward_has_to_be_true_or_false(self):
        for wrong in (0, 1, None, "", (), 1.0):
            self.bad("way", joined, ARCS, ((0, wrong),))

    def test_no_arcs(self):
        self.bad("way", joined, [], ())
        self.bad("way", joined, [], ((0, True),))

    def test_all_short_ways(self):
        steps = list(itertools.product(range(3), (True, False)))
        ends = {(number, forward): (ARCS[number][0], ARCS[number][-1])[::1 if forward else -1]
                for number, forward in steps}
        for way in itertools.product(steps, repeat=3):
            if all(ends[first][1] == ends[second][0] for first, second in zip(way, way[1:])):
                line = joined(ARCS, way)
                self.assertEqual((line[0], line[-1]), (ends[way[0]][0], ends[way[-1]][1]))
            else:
                self.bad("way", joined, ARCS, way)

    def test_refused(self):
        self.refuses(joined, ("arcs", ARCS, NO_TRACK_LISTS), ("way", ((0, True),), NO_WAYS))


if __name__ == "__main__":
    unittest.main()
