"""What several tests use."""

import random
import unittest

from trueatlas.errors import BadValue

# Values that are no fraction, no point, no segment, no line, no ring, no plane and no cleaning.
ODD_VALUES = [
    True, False, None, 0, 1, -7, 10 ** 20, "", "a", "ab", "abc", b"ab", 1.5, {}, {0: 1, 1: 2}, set(),
    (), (0,), (1, 2, "a"), [], [0], [0, 1], [(0, 0), (1, 0)], [[0, 0], [1, 0]],
    (True, False), (True, 2), (2, True), (None, None), ("a", "b"), ("0", "1"), (0.0, 1.0), ((), ()), ([], []),
    ((0,), (1,)), ((0, 0, 0), (1, 0, 0)), ([0, 0], [1, 0]), ((0, 0), [1, 0]), ([0, 0], (1, 0)),
    ((False, False), (True, False)), ((0, 0), (1, True)), ((0, 0), None), (((0, 0), (1, 0)),),
    (((0, 0),), ((1, 0),)), ((((),),),),
]


class Case(unittest.TestCase):
    """A test with the questions that many tests ask."""

    def same(self, got, wanted):
        """Both are equal, and of the same kinds at every depth: 1 is not True, and a list is no tuple."""
        self.assertEqual(repr(got), repr(wanted))

    def bad(self, name, call, *arguments):
        """The call is refused with the name of this argument."""
        with self.assertRaises(BadValue, msg=f"{call.__name__}{arguments}") as caught:
            call(*arguments)
        self.assertEqual(caught.exception.name, name, f"{call.__name__}{arguments}")

    def refuses(self, call, *rows):
        """For rows (name, right value, wrong values), the first wrong argument is told, whatever stands behind it."""
        rights = [right for _, right, _ in rows]
        call(*rights)
        for place, (name, _, wrongs) in enumerate(rows):
            for wrong in wrongs:
                self.bad(name, call, *rights[:place], wrong, *rights[place + 1:])
                for junk in (None, True, (), [0], "a"):
                    behind = [junk for _ in rows[place + 1:]]
                    self.bad(name, call, *rights[:place], wrong, *behind)


def without(*allowed):
    """The odd values but for those that are right for once."""
    return [value for value in ODD_VALUES if repr(value) not in [repr(item) for item in allowed]]


def shuffled(rows, seed):
    """The rows in another order."""
    rows = list(rows)
    random.Random(seed).shuffle(rows)
    return rows


def grid(least, most):
    """All points with coordinates between these, in ascending order."""
    return [(x, y) for x in range(least, most + 1) for y in range(least, most + 1)]


def some_segments(source, many, reach):
    """Some segments with coordinates up to this reach."""
    found = []
    while len(found) < many:
        p, q = [(source.randint(-reach, reach), source.randint(-reach, reach)) for _ in range(2)]
        if p != q:
            found.append((min(p, q), max(p, q)))
    return tuple(found)


def turned(p):
    """The point after a quarter turn, counter-clockwise, about (0, 0)."""
    return (-p[1], p[0])


def mirrored(p):
    """The point with east and west exchanged."""
    return (-p[0], p[1])


def moved(p):
    """The point moved by whole numbers."""
    return (p[0] + 13, p[1] - 29)


def segment_by(way, segment):
    """The segment whose ends are led where this way of points leads."""
    p, q = way(segment[0]), way(segment[1])
    return (min(p, q), max(p, q))
