"""Points 30, 33 and 35: which values are right as a cleaning."""

import itertools
import random
import unittest
from fractions import Fraction

from tests.test_cleaning import FORTY, NO_TUPLES, PAIR, is_within, some_sets
from tests.test_crossings import meeting_by_python
from tests.tools import Case, ODD_VALUES, some_segments
from trueatlas.cleaning import cleaned, is_cleaning
from trueatlas.sides import is_point, is_segment

ROW = ((0, 0), (4, 0))
RISING = ((0, 0), (4, 2))
FALLING = ((0, 2), (4, 0))
UPRIGHT = ((0, 0), (0, 4))


def edges_of(chains):
    """The segments between neighbours in some chains, each once, in ascending order."""
    pairs = {(min(pair), max(pair)) for chain in chains for pair in zip(chain, chain[1:])}
    return tuple(sorted(pairs))


def told(rounds, *chains):
    """A value with these chains, and their edges as they should be."""
    return (edges_of(chains), tuple(chains), rounds)


def has_form(value):
    """Whether the value looks like a cleaning."""
    if type(value) is not tuple or len(value) != 3:
        return False
    edges, chains, rounds = value
    if type(edges) is not tuple or type(chains) is not tuple or type(rounds) is not int or rounds < 0:
        return False
    if not all(is_segment(edge) for edge in edges) or list(edges) != sorted(set(edges)):
        return False
    return all(type(chain) is tuple and len(chain) > 1 and all(map(is_point, chain)) for chain in chains)


def is_right(segments, value):
    """Whether the value is right, judged by another calculation."""
    if not has_form(value):
        return False
    edges, chains, rounds = value
    if len(chains) != len(segments):
        return False
    for (a, b), chain in zip(segments, chains):
        ways = list(zip(chain, chain[1:]))
        up = a[1] <= b[1]
        if (chain[0], chain[-1]) != (a, b) or any(p == q or p[0] > q[0] for p, q in ways):
            return False
        if any(p[1] > q[1] if up else p[1] < q[1] for p, q in ways):
            return False
        if not all(is_within(p, (a, b), Fraction(rounds, 2)) for p in chain):
            return False
    for first, second in itertools.combinations(edges, 2):
        found = meeting_by_python(first, second)
        if found[0] not in ("none", "touch") or found[0] == "touch" and not (found[1] in first and found[1] in second):
            return False
    return edges == edges_of(chains) and (rounds == 0) == (list(edges) == sorted(set(segments)))


def changed(source, value):
    """The value with one thing changed."""
    edges, chains, rounds = value
    kind = source.randrange(8)
    at = source.randrange(len(chains))
    chain = list(chains[at])
    place = source.randrange(len(chain))
    shifted = (chain[place][0] + source.randint(-1, 1), chain[place][1] + source.randint(-1, 1))
    if kind == 0:
        return (edges, chains, max(0, rounds + source.choice((-1, 1))))
    if kind == 1:
        return (edges[:-1], chains, rounds)
    if kind == 2:
        return (edges[1:] + edges[:1], chains, rounds)
    if kind == 3:
        return (edges, chains[1:] + chains[:1], rounds)
    if kind == 4:
        chain[place] = shifted
    elif kind == 5:
        chain.insert(place, shifted)
    elif kind == 6:
        del chain[place]
    elif kind == 7:
        chain.reverse()
    chains = chains[:at] + (tuple(chain),) + chains[at + 1:]
    if all(len(row) > 1 for row in chains) and source.randrange(2):
        edges = edges_of(chains)
    return (edges, chains, rounds)


class JudgeTest(Case):

    def judged(self, wanted, segments, value):
        self.assertIs(is_cleaning(segments, value), wanted, (segments, value))
        self.assertIs(is_right(segments, value), wanted, (segments, value))

    def test_what_cleaned_returns(self):
        for rows in some_sets():
            self.assertIs(is_cleaning(rows, cleaned(rows)), True)
        for rows in ((), PAIR, PAIR + PAIR, PAIR[::-1], FORTY, FORTY[::-1]):
            self.judged(True, rows, cleaned(rows))

    def test_nothing(self):
        self.judged(True, (), ((), (), 0))
        self.judged(False, (), ((), (), 1))
        self.judged(False, (), ((), (ROW,), 0))
        self.judged(False, (), ((ROW,), (), 0))
        self.judged(False, (ROW,), ((), (), 0))

    def test_rounds(self):
        self.judged(True, (ROW,), told(0, ROW))
        self.judged(False, (ROW,), told(1, ROW))
        self.judged(False, (ROW,), told(0, ((0, 0), (2, 0), (4, 0))))
        self.judged(True, (ROW,), told(1, ((0, 0), (2, 0), (4, 0))))
        self.judged(True, (ROW,), told(10 ** 20, ((0, 0), (2, 0), (4, 0))))
        for rounds in (-1, True, False, None, "1", (1,), 1.0):
            self.judged(False, (ROW,), told(rounds, ((0, 0), (2, 0), (4, 0))))
        self.judged(False, (ROW,), told(False, ROW))
        self.judged(True, (ROW, ROW), told(0, ROW, ROW))
        self.judged(False, (ROW, ROW), (((ROW), (ROW)), (ROW, ROW), 0))

    def test_how_far_a_chain_may_go(self):
        self.judged(False, (RISING,), told(1, ((0, 0), (2, 2), (4, 2))))
        self.judged(True, (RISING,), told(2, ((0, 0), (2, 2), (4, 2))))
        self.judged(True, (RISING,), told(1, ((0, 0), (1, 1), (4, 2))))
        self.judged(False, (((0, 0), (9, 9)),), told(5, ((0, 0), (0, 6), (9, 9))))
        self.judged(True, (((0, 0), (9, 9)),), told(6, ((0, 0), (0, 6), (9, 9))))
        self.judged(True, (((0, 0), (9, 0)),), told(1, ((0, 0), (5, 0), (9, 0))))

    def test_every_near_point(self):
        rights = 0
        for segment in (RISING, FALLING, ((0, 0), (5, 1)), ((0, 4), (1, 0)), UPRIGHT, ROW, ((-2, -2), (3, 3))):
            low, high = sorted((segment[0][1], segment[1][1]))
            for x in range(segment[0][0], segment[1][0] + 1):
                for y in range(low, high + 1):
                    if (x, y) in segment:
                        continue
                    for rounds in range(6):
                        value = told(rounds, (segment[0], (x, y), segment[1]))
                        right = is_right((segment,), value)
                        rights += right
                        self.assertIs(is_cleaning((segment,), value), right, value)
        self.assertGreater(rights, 50)

    def test_x_and_y_go_one_way(self):
        self.judged(False, (ROW,), told(9, ((0, 0), (2, 1), (4, 0))))
        self.judged(False, (ROW,), told(9, ((0, 0), (2, -1), (4, 0))))
        self.judged(False, (ROW,), told(9, ((0, 0), (5, 0), (4, 0))))
        self.judged(False, (UPRIGHT,), told(9, ((0, 0), (1, 2), (0, 4))))
        self.judged(True, (UPRIGHT,), told(9, ((0, 0), (0, 2), (0, 4))))
        self.judged(True, (FALLING,), told(1, ((0, 2), (2, 1), (4, 0))))
        self.judged(True, (FALLING,), told(2, ((0, 2), (2, 2), (2, 1), (4, 0))))
        self.judged(False, (FALLING,), told(2, ((0, 2), (2, 1), (2, 2), (4, 0))))
        self.judged(False, (RISING,), told(2, ((0, 0), (2, 2), (2, 1), (4, 2))))

    def test_ends_and_neighbours(self):
        self.judged(False, (ROW,), told(1, ((0, 0), (2, 0))))
        self.judged(False, (ROW,), told(1, ((2, 0), (4, 0))))
        self.judged(False, (ROW,), told(1, ((4, 0), (2, 0), (0, 0))))
        self.assertIs(is_cleaning((ROW,), ((((0, 0), (2, 0)), ((2, 0), (4, 0))), (
            ((0, 0), (2, 0), (2, 0), (4, 0)),), 1)), False)

    def test_edges_are_those_of_the_chains(self):
        chain = ((0, 0), (2, 0), (4, 0))
        left, right = ((0, 0), (2, 0)), ((2, 0), (4, 0))
        self.judged(True, (ROW,), ((left, right), (chain,), 1))
        self.judged(False, (ROW,), ((right, left), (chain,), 1))
        self.judged(False, (ROW,), ((left,), (chain,), 1))
        self.judged(False, (ROW,), ((left, right, right), (chain,), 1))
        self.judged(False, (ROW,), ((left, right, ((8, 8), (9, 9))), (chain,), 1))
        self.judged(False, (ROW,), ((left, right[::-1]), (chain,), 1))
        self.judged(False, (ROW,), ((ROW,), (chain,), 1))

    def test_edges_are_clean(self):
        self.judged(False, PAIR, told(0, *PAIR))
        self.judged(False, PAIR, told(1, *PAIR))
        other = ((2, -2), (2, 2))
        self.judged(False, (ROW, other), told(1, ((0, 0), (1, 0), (4, 0)), other))
        self.judged(False, (ROW, other), told(1, ROW, (other[0], (2, 0), other[1])))
        self.judged(True, (ROW, other), told(1, ((0, 0), (2, 0), (4, 0)), (other[0], (2, 0), other[1])))
        self.judged(False, (ROW, ((1, 0), (6, 0))), told(1, ((0, 0), (2, 0), (4, 0)), ((1, 0), (6, 0))))

    def test_chains_stand_in_the_order_of_the_segments(self):
        edges, chains, rounds = cleaned(PAIR)
        self.judged(False, PAIR, (edges, chains[::-1], rounds))
        self.judged(True, PAIR[::-1], (edges, chains[::-1], rounds))
        self.judged(False, PAIR, (edges, chains + chains[:1], rounds))
        self.judged(False, PAIR, (edges, chains[:1], rounds))
        self.judged(True, PAIR + PAIR[:1], (edges, chains + chains[:1], rounds))

    def test_kinds(self):
        edges, chains, rounds = cleaned(PAIR)
        for value in ((list(edges), chains, rounds), (edges, list(chains), rounds), [edges, chains, rounds],
                      (edges, chains), (edges, chains, rounds, 0), (edges, (list(chains[0]), chains[1]), rounds),
                      (edges, chains, True), (edges[:3] + (list(edges[3]),), chains, rounds),
                      (edges[:3] + ((list(edges[3][0]), edges[3][1]),), chains, rounds),
                      (edges, (((0, 0), (True, 0), (3, 1)), chains[1]), rounds),
                      ((((0, 0), (True, 0)),) + edges[1:], chains, rounds),
                      (edges, (chains[0], (chains[1][0], list(chains[1][1]), chains[1][2])), rounds),
                      (edges, (chains[0], chains[1][:1]), rounds), (edges, (chains[0], ()), rounds),
                      (edges, (chains[0], None), rounds), (None, chains, rounds), (edges, None, rounds),
                      (edges, chains, None), ("edges", "chains", 1), ((), (), 1), (chains, edges, rounds)):
            self.judged(False, PAIR, value)

    def test_more_than_four_hundred_edges(self):
        rows = tuple(((-1000, k), (1000, k)) for k in range(3))
        fine = told(1, *[tuple((x, k) for x in range(-1000, 1001)) for k in range(3)])
        self.assertIs(is_cleaning(rows, fine), True)
        upright = ((0, -1000), (0, 1000))
        self.assertIs(is_cleaning((upright,), told(1, tuple((0, y) for y in range(-1000, 1001)))), True)

    def test_every_value(self):
        for segments in ((), (ROW,), PAIR):
            for value in ODD_VALUES:
                self.assertIs(is_cleaning(segments, value), False, value)
            for first, second, third in itertools.product(((), ODD_VALUES[0], ROW, [ROW], (ROW,), ((),)), repeat=3):
                value = (first, second, third)
                self.assertIs(is_cleaning(segments, value), is_right(segments, value), value)

    def test_one_thing_changed(self):
        source = random.Random(33)
        answers = {True: 0, False: 0}
        for many, reach in ((1, 3), (2, 3), (3, 4), (5, 5)):
            for _ in range(30):
                rows = some_segments(source, many, reach)
                for _ in range(8):
                    value = changed(source, cleaned(rows))
                    right = is_right(rows, value)
                    answers[right] += 1
                    self.assertIs(is_cleaning(rows, value), right, (rows, value))
        self.assertGreater(min(answers.values()), 50)

    def test_refused(self):
        self.refuses(is_cleaning, ("segments", PAIR, NO_TUPLES), ("value", cleaned(PAIR), []))


if __name__ == "__main__":
    unittest.main()
