"""Points 100 to 102, 109 to 112: labels, their candidates, what excludes what, placements and groups of conflict."""

import itertools
import random
import unittest

from tests.test_shapes import NO_NAMES
from tests.test_sides import NO_POINTS
from tests.tools import Case, ODD_VALUES, without
from trueatlas.labels import candidates_at, excluding, groups_of_conflict, is_allowed, is_labels, weight_of

LABELS = (("east", 4, ((6, 0, 10, 2),)), ("middle", 5, ((3, 0, 7, 2),)), ("west", 3, ((0, 0, 4, 2),)))
BOX = (0, 0, 4, 2)
ROW = tuple((5 * k, 0, 5 * k + 4, 2) for k in range(31))
NO_NUMBERS = [True, False, None, "1", 1.0, (), (1,), [1], b"1"]
NO_LABEL_BOXES = ODD_VALUES + [
    (0, 0, 4), (0, 0, 4, 2, 0), [0, 0, 4, 2], (0, 0, 0, 2), (0, 0, 4, 0), (4, 0, 0, 2), (0, 2, 4, 0), (0, 0, 4001, 2),
    (0, 0, 4, 4001), (-4001, 0, 4, 2), (0, -4001, 4, 2), ((0, 0), (4, 2)), {0: 0, 1: 0, 2: 4, 3: 2},
] + [(value, 0, 4, 2) for value in NO_NUMBERS] + [(0, 0, 4, value) for value in NO_NUMBERS]
NO_LABEL = ODD_VALUES + [(value, 5, (BOX,)) for value in NO_NAMES] + [
    ("a", value, (BOX,)) for value in [0, 1001, -1, 10 ** 20, *NO_NUMBERS]] + [
    ("a", 5, (value,)) for value in NO_LABEL_BOXES] + [("a", 5, value) for value in ODD_VALUES] + [
    ("a", 5, [BOX]), ("a", 5, BOX), ("a", 5, ROW[:6]), ("a", 5, (BOX, BOX)), ("a", 5, (ROW[1], BOX, ROW[1])),
    ("a", 5, (BOX, None)), ["a", 5, (BOX,)], ("a", 5), ("a", 5, (BOX,), None), ("a", (BOX,), 5), (5, "a", (BOX,))]
ELEVEN = tuple((f"n{k:02d}", 1, (ROW[k],)) for k in range(11))
SPREAD = (5, 5, 5, 5, 5, 1, 1, 1, 1, 1)


def spread(counts):
    """Labels with these numbers of candidates, none of which overlap."""
    rows = list(ROW)
    return tuple((f"n{k:02d}", k + 1, tuple(rows.pop() for _ in range(many))) for k, many in enumerate(counts))


NO_LABELS = without(()) + [(value,) for value in NO_LABEL] + [
    LABELS[0], list(LABELS), LABELS[::-1], (LABELS[1], LABELS[0]), LABELS[:1] * 2, LABELS[:2] + LABELS[1:2],
    (LABELS[0], ("east", 9, (ROW[5],))), ELEVEN, spread((5, 5, 5, 5, 5, 1, 1, 1, 1, 2)), spread((5, 5, 5, 5, 5, 5, 1)),
    LABELS + (None,), (None,) + LABELS, (("a10", 1, (BOX,)), ("a1", 1, (BOX,))), (("b", 1, (BOX,)), ("ab", 1, (BOX,)))]
# These are no placements of the three labels above.
NO_PLACEMENTS = without() + [
    (0, 0), (0, 0, 0, 0), (0, 0, 1), (1, 0, 0), (-1, 0, 0), (0, 0, -1), (0, 0, True), (0, False, 0), [0, 0, 0],
    (0, 0, "0"), (0, 0, 0.0), (0, 0, (0,)), (None, None, "None"), (0, (1, 0), 0), {0: 0, 1: 0, 2: 0}, "000", (),
    (None,)]


def do_overlap(a, b):
    """Whether two boxes have a common point within both, found at the middles of a grid of halves."""
    xs = sorted({a[0], a[2], b[0], b[2]})
    ys = sorted({a[1], a[3], b[1], b[3]})
    middles = [((x + u) / 2, (y + v) / 2) for x, u in zip(xs, xs[1:]) for y, v in zip(ys, ys[1:])]
    return any(a[0] < x < a[2] and a[1] < y < a[3] and b[0] < x < b[2] and b[1] < y < b[3] for x, y in middles)


def excluding_by_python(labels):
    """The pairs that exclude each other, by the words of point 101."""
    places = [(i, k) for i, (_, _, boxes) in enumerate(labels) for k in range(len(boxes))]
    return [(a, b) for a in places for b in places if a < b
            and (a[0] == b[0] or do_overlap(labels[a[0]][2][a[1]], labels[b[0]][2][b[1]]))]


def placements(labels):
    """All placements, those of lesser indexes first and None last."""
    return itertools.product(*[[*range(len(boxes)), None] for _, _, boxes in labels])


def is_free(labels, placement):
    """Whether a placement takes no two candidates that exclude each other."""
    boxes = [label[2][k] for label, k in zip(labels, placement) if k is not None]
    return not any(do_overlap(a, b) for a, b in itertools.combinations(boxes, 2))


def some_labels(source, many, together, reach, most=5):
    """Labels with as many candidates together, at most, within this reach."""
    found = []
    left = together
    for k in range(many):
        boxes = []
        count = source.randint(1, max(1, min(5, left - (many - k - 1))))
        while len(boxes) < count:
            x, y = source.randint(0, reach), source.randint(0, reach)
            box = (x, y, x + source.randint(1, 6), y + source.randint(1, 4))
            if box not in boxes:
                boxes.append(box)
        left -= count
        found.append((f"n{k}", source.randint(1, most), tuple(boxes)))
    return tuple(found)


def moved(labels, way):
    """The labels with each box led where this way leads."""
    return tuple((name, weight, tuple(way(box) for box in boxes)) for name, weight, boxes in labels)


WAYS = [
    lambda box: (box[0] + 13, box[1] - 29, box[2] + 13, box[3] - 29),
    lambda box: (-box[2], box[1], -box[0], box[3]),
    lambda box: (box[0], -box[3], box[2], -box[1]),
    lambda box: tuple(7 * number for number in box),
]


class FormTest(Case):

    def test_labels(self):
        for value in ((), LABELS, LABELS[:1], ELEVEN[:10], ELEVEN[1:], spread(SPREAD), spread((3,) * 10),
                      (("a", 1, (BOX,)), ("b", 1000, (BOX,))), (("a", 5, ROW[:5]),), (("a" * 12, 1, (BOX,)),),
                      (("a", 1, ((-4000, -4000, 4000, 4000),)),), (("a", 1, ((3999, 3999, 4000, 4000),)),),
                      (("a1", 1, (BOX,)), ("a10", 1, (BOX,)), ("aa", 1, (BOX,)))):
            self.assertIs(is_labels(value), True, value)
        for value in NO_LABELS:
            self.assertIs(is_labels(value), False, value)

    def test_thirty_candidates(self):
        self.assertEqual(sum(len(boxes) for _, _, boxes in spread(SPREAD)), 30)
        self.assertEqual(len(excluding(spread((3,) * 10))), 30)

    def test_order_of_names(self):
        for order in itertools.permutations(LABELS):
            self.assertIs(is_labels(order), order == LABELS)


class ExcludingTest(Case):

    def test_example(self):
        self.same(excluding(LABELS), [((0, 0), (1, 0)), ((1, 0), (2, 0))])

    def test_touching_and_within(self):
        for other, wanted in (
                ((4, 0, 8, 2), False), ((0, 2, 4, 4), False), ((4, 2, 8, 4), False), ((-4, -2, 0, 0), False),
                ((-4, 0, 0, 2), False), ((0, -2, 4, 0), False), ((4, -2, 8, 0), False), ((3, 1, 8, 4), True),
                ((1, 0, 2, 1), True), ((-9, -9, 9, 9), True), ((1, -9, 2, 9), True), ((-9, 1, 9, 2), True),
                (BOX, True), ((0, 0, 1, 1), True), ((3, 1, 4, 2), True), ((5, 0, 8, 2), False), ((0, 3, 4, 5), False),
                ((-9, -9, 0, 9), False), ((-9, -9, 9, 0), False)):
            for labels in ((("a", 1, (BOX,)), ("b", 1, (other,))), (("a", 1, (other,)), ("b", 1, (BOX,)))):
                self.same(excluding(labels), [((0, 0), (1, 0))] if wanted else [])

    def test_of_one_label(self):
        self.same(excluding((("a", 1, (ROW[0], ROW[9], ROW[4])),)),
                  [((0, 0), (0, 1)), ((0, 0), (0, 2)), ((0, 1), (0, 2))])
        self.same(excluding(()), [])
        self.same(excluding((("a", 1, (BOX,)),)), [])

    def test_at_the_bounds(self):
        labels = (("a", 1, ((-4000, -4000, 4000, 4000),)), ("b", 1, ((3999, -4000, 4000, -3999),)),
                  ("c", 1, ((-4000, -4000, 3999, -3999),)))
        self.same(excluding(labels), [((0, 0), (1, 0)), ((0, 0), (2, 0))])

    def test_as_the_document_tells(self):
        source = random.Random(101)
        for _ in range(80):
            labels = some_labels(source, source.randint(0, 8), 20, source.choice((4, 9, 20)))
            self.same(excluding(labels), excluding_by_python(labels))

    def test_moved_mirrored_greater(self):
        source = random.Random(108)
        for _ in range(40):
            labels = some_labels(source, 6, 18, 12)
            for way in WAYS:
                self.same(excluding(moved(labels, way)), excluding(labels))

    def test_refused(self):
        self.refuses(excluding, ("labels", LABELS, NO_LABELS))


class PlacementTest(Case):

    def test_some(self):
        for placement, allowed, weight in (((0, None, 0), True, 7), ((None, 0, None), True, 5),
                                           ((0, 0, None), False, 9),
                                           ((0, 0, 0), False, 12), ((None,) * 3, True, 0), ((None, 0, 0), False, 8)):
            self.same(is_allowed(LABELS, placement), allowed)
            self.same(weight_of(LABELS, placement), weight)

    def test_no_labels(self):
        self.same((is_allowed((), ()), weight_of((), ())), (True, 0))

    def test_greatest(self):
        labels = tuple((name, 1000, boxes) for name, _, boxes in ELEVEN[:10])
        self.same((is_allowed(labels, (0,) * 10), weight_of(labels, (0,) * 10)), (True, 10000))

    def test_as_the_document_tells(self):
        source = random.Random(102)
        for _ in range(20):
            labels = some_labels(source, 4, 9, 9)
            for placement in placements(labels):
                self.same(is_allowed(labels, placement), is_free(labels, placement))
                self.same(weight_of(labels, placement),
                          sum(label[1] for label, k in zip(labels, placement) if k is not None))

    def test_refused(self):
        for call in (is_allowed, weight_of):
            self.refuses(call, ("labels", LABELS, NO_LABELS[::3]), ("placement", (0, None, 0), NO_PLACEMENTS))
            self.bad("placement", call, (), (None,))
            self.bad("placement", call, (("a", 1, ROW[:5]),), (5,))
            self.assertEqual(call((("a", 1, ROW[:5]),), (4,)), 1)


class CandidatesAtTest(Case):

    def test_example(self):
        self.same(candidates_at((0, 0), 3, 2, 1), ((1, 1, 4, 3), (-4, 1, -1, 3), (-4, -3, -1, -1), (1, -3, 4, -1)))

    def test_some(self):
        self.same(candidates_at((7, -5), 2, 4, 0), ((7, -5, 9, -1), (5, -5, 7, -1), (5, -9, 7, -5), (7, -9, 9, -5)))
        self.same(candidates_at((1000, -1000), 200, 1, 20),
                  ((1020, -980, 1220, -979), (780, -980, 980, -979), (780, -1021, 980, -1020),
                   (1020, -1021, 1220, -1020)))

    def test_as_the_document_tells(self):
        places = ((0, 0), (-1000, 1000), (13, -7))
        for (x, y), w, h, gap in itertools.product(places, (1, 5, 200), (1, 6, 200), (0, 1, 20)):
            found = candidates_at((x, y), w, h, gap)
            self.same(found, ((x + gap, y + gap, x + gap + w, y + gap + h),
                              (x - gap - w, y + gap, x - gap, y + gap + h),
                              (x - gap - w, y - gap - h, x - gap, y - gap),
                              (x + gap, y - gap - h, x + gap + w, y - gap)))
            self.assertIs(is_labels((("a", 1, found),)), True)
            self.assertFalse(any(do_overlap(a, b) for a, b in itertools.combinations(found, 2)))

    def test_refused(self):
        sizes = [0, 201, -1, 10 ** 20, *NO_NUMBERS]
        self.refuses(candidates_at, ("point", (0, 0), NO_POINTS), ("width", 200, sizes), ("height", 1, sizes),
                     ("gap", 0, [-1, 21, 10 ** 20, *NO_NUMBERS]))
        self.bad("point", candidates_at, (1001, 0), 1, 1, 0)


class GroupsTest(Case):

    def test_some(self):
        self.same(groups_of_conflict(LABELS), [(0, 1, 2)])
        self.same(groups_of_conflict(()), [])
        self.same(groups_of_conflict(ELEVEN[:10]), [(k,) for k in range(10)])
        self.same(groups_of_conflict((LABELS[0], LABELS[2])), [(0,), (1,)])
        self.same(groups_of_conflict(spread(SPREAD)), [(k,) for k in range(10)])

    def test_order(self):
        labels = tuple((f"n{k}", 1, (ROW[place],)) for k, place in enumerate((3, 1, 2, 3, 2, 1, 7)))
        self.same(groups_of_conflict(labels), [(0, 3), (1, 5), (2, 4), (6,)])

    def test_by_way_of_other_candidates(self):
        labels = (("a", 1, (ROW[0],)), ("b", 1, (ROW[5], ROW[1])), ("c", 1, (ROW[0], ROW[1])), ("d", 1, (ROW[5],)))
        self.same(groups_of_conflict(labels), [(0, 1, 2, 3)])
        self.same(groups_of_conflict(labels[:2] + labels[3:]), [(0,), (1, 2)])

    def test_touching_boxes_join_nothing(self):
        labels = (("a", 1, ((0, 0, 4, 2),)), ("b", 1, ((4, 0, 8, 2),)), ("c", 1, ((4, 2, 8, 4), (0, 2, 4, 4))))
        self.same(groups_of_conflict(labels), [(0,), (1,), (2,)])

    def test_as_the_document_tells(self):
        source = random.Random(110)
        for _ in range(80):
            labels = some_labels(source, source.randint(1, 9), 20, source.choice((9, 20, 40)))
            group = {i: {i} for i in range(len(labels))}
            for (i, _), (j, _) in excluding_by_python(labels):
                joined = group[i] | group[j]
                for k in joined:
                    group[k] = joined
            self.same(groups_of_conflict(labels), sorted({tuple(sorted(members)) for members in group.values()}))

    def test_refused(self):
        self.refuses(groups_of_conflict, ("labels", LABELS, NO_LABELS))

    def test_lists_that_the_caller_changes(self):
        for call in (groups_of_conflict, excluding):
            wanted = call(LABELS)
            call(LABELS).clear()
            call(LABELS).append(((0, 0), (2, 0)))
            self.same(call(LABELS), wanted)


if __name__ == "__main__":
    unittest.main()
