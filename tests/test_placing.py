"""Points 103 to 108, 111 and 112: greedy and best placements, evidence and its judge."""

import itertools
import random
import unittest
from unittest import mock

from tests.test_labels import (LABELS, NO_LABELS, NO_PLACEMENTS, ROW, SPREAD, WAYS, excluding_by_python, is_free, moved,
                               placements, some_labels, spread)
from tests.tools import Case, ODD_VALUES
from trueatlas.errors import TooLarge
from trueatlas.labels import candidates_at, groups_of_conflict, is_allowed, weight_of
from trueatlas.placing import accepts, best, greedy

# A cover of all candidates of the three labels, with the total 7.
COVER = ("cover", ((((0, 0), (1, 0)), 4), (((1, 0), (2, 0)), 3)))
# A split of the three labels.
SPLIT = ("split", (1, 0), ("cover", ()), ("cover", ((((0, 0),), 4), (((2, 0),), 3))))
BEST = (0, None, 0)
# Six labels of eighteen candidates, for which a cover alone is far from enough.
HARD = (("l0", 1, ((11, 2, 14, 5), (0, 1, 7, 4), (14, 7, 17, 9), (0, 12, 1, 20))),
        ("l1", 2, ((4, 7, 6, 10), (5, 6, 12, 9), (9, 13, 10, 15))),
        ("l2", 2, ((12, 11, 15, 21), (2, 7, 10, 9), (12, 11, 20, 14), (2, 11, 5, 18))), ("l3", 3, ((13, 8, 16, 10),)),
        ("l4", 150, ((10, 11, 20, 13), (12, 13, 23, 16), (3, 13, 4, 17))),
        ("l5", 58, ((1, 6, 4, 20), (4, 13, 15, 14), (3, 12, 12, 14))))


def best_by_python(labels):
    """The first allowed placement of the greatest weight, found by looking at all of them."""
    found, most = None, -1
    for placement in placements(labels):
        weight = sum(label[1] for label, k in zip(labels, placement) if k is not None)
        if weight > most and is_free(labels, placement):
            found, most = placement, weight
    return found, most


def greedy_by_python(labels):
    """The greedy placement, by the words of point 103."""
    placement = [None] * len(labels)
    for weight, _, i in sorted((-label[1], label[0], i) for i, label in enumerate(labels)):
        for k in range(len(labels[i][2])):
            placement[i] = k
            if is_free(labels, placement):
                break
            placement[i] = None
    return tuple(placement)


def count_of(evidence):
    """How many tuples "cover" and "split" the evidence has."""
    return 1 if evidence[0] == "cover" else 1 + count_of(evidence[2]) + count_of(evidence[3])


def is_evidence(labels, evidence, chosen, most):
    """Whether what has the form of evidence is right for a set of candidates, by the words of points 105 and 106."""
    pairs = set(excluding_by_python(labels))
    if evidence[0] == "split":
        taken = evidence[1]
        others = [place for place in chosen if place != taken]
        free = [place for place in others if (min(place, taken), max(place, taken)) not in pairs]
        return (taken in chosen and is_evidence(labels, evidence[2], free, most - labels[taken[0]][1])
                and is_evidence(labels, evidence[3], others, most))
    for group, number in evidence[1]:
        if list(group) != sorted(set(group)) or not group or number < 1:
            return False
        if any(pair not in pairs for pair in itertools.combinations(group, 2)):
            return False
    if sum(number for _, number in evidence[1]) > most:
        return False
    return all(sum(number for group, number in evidence[1] if place in group) >= labels[place[0]][1]
               for place in chosen)


def all_places(labels):
    return [(i, k) for i, label in enumerate(labels) for k in range(len(label[2]))]


def around_points(source, many, reach, most):
    """Labels with the four candidates around some points."""
    found = []
    for k in range(many):
        p = (source.randint(0, reach), source.randint(0, reach))
        wide, high = source.randint(3, 12), source.randint(2, 4)
        found.append((f"n{k}", source.randint(1, most), candidates_at(p, wide, high, 1)))
    return tuple(found)


def comb(many, evidence):
    """Evidence in a comb of this number of splits that goes nowhere."""
    for _ in range(many):
        evidence = ("split", (0, 0), COVER, evidence)
    return evidence


def bush(labels, chosen):
    """Evidence that splits at every candidate of a set, down to empty sets."""
    if not chosen:
        return ("cover", ())
    pairs = set(excluding_by_python(labels))
    taken = chosen[0]
    free = [place for place in chosen[1:] if (taken, place) not in pairs]
    return ("split", taken, bush(labels, free), bush(labels, chosen[1:]))


class GreedyTest(Case):

    def test_example(self):
        self.same(greedy(LABELS), (None, 0, None))

    def test_order(self):
        boxes = (ROW[0],)
        self.same(greedy((("a", 5, boxes), ("b", 5, boxes))), (0, None))
        self.same(greedy((("a", 4, boxes), ("b", 5, boxes))), (None, 0))
        self.same(greedy((("a", 1, boxes), ("b", 1000, boxes), ("c", 1000, boxes))), (None, 0, None))
        self.same(greedy((("a", 4, (ROW[0], ROW[1])), ("b", 5, boxes))), (1, 0))
        self.same(greedy((("a", 4, (ROW[0], ROW[1], ROW[2])), ("b", 5, boxes), ("c", 6, (ROW[1],)))), (2, 0, 0))

    def test_first_candidate(self):
        self.same(greedy((("a", 1, (ROW[3], ROW[1])),)), (0,))
        self.same(greedy(spread(SPREAD)), (0,) * 10)
        self.same(greedy(()), ())

    def test_as_the_document_tells(self):
        source = random.Random(103)
        for _ in range(150):
            labels = some_labels(source, source.randint(1, 10), 30, source.choice((4, 9, 15)),
                                 source.choice((2, 9, 1000)))
            found = greedy(labels)
            self.same(found, greedy_by_python(labels))
            self.assertIs(is_allowed(labels, found), True)
            for i, k in enumerate(found):
                if k is None:
                    for other in range(len(labels[i][2])):
                        self.assertIs(is_allowed(labels, found[:i] + (other,) + found[i + 1:]), False)

    def test_refused(self):
        self.refuses(greedy, ("labels", LABELS, NO_LABELS))


class BestTest(Case):

    def check(self, labels):
        """The placement is the first best one, and the evidence is right by two judges."""
        found = best(labels)
        self.assertIsInstance(found, tuple)
        placement, evidence = found
        wanted, weight = best_by_python(labels)
        self.same(placement, wanted)
        self.assertIs(accepts(labels, placement, evidence), True)
        self.assertTrue(is_evidence(labels, evidence, all_places(labels), weight))
        self.assertLessEqual(count_of(evidence), 2000)
        self.assertGreaterEqual(weight, weight_of(labels, greedy(labels)))
        return evidence

    def test_example(self):
        placement, evidence = best(LABELS)
        self.same(placement, (0, None, 0))
        self.assertIs(accepts(LABELS, placement, evidence), True)
        self.assertIs(accepts(LABELS, (None, 0, None), evidence), False)

    def test_no_labels(self):
        placement, evidence = best(())
        self.same(placement, ())
        self.assertIs(accepts((), (), evidence), True)
        self.assertIs(accepts((), (), ("cover", ())), True)

    def test_equal_weights(self):
        one, two, three = (ROW[0],), (ROW[0], ROW[1]), (ROW[0], ROW[1], ROW[2])
        for labels, wanted in (
                ((("a", 5, one), ("b", 5, one)), (0, None)),
                ((("a", 5, one), ("b", 5, two)), (0, 1)),
                ((("a", 5, two), ("b", 5, one)), (1, 0)),
                ((("a", 5, two), ("b", 5, two)), (0, 1)),
                ((("a", 5, two), ("b", 5, two), ("c", 5, two)), (0, 1, None)),
                ((("a", 4, two), ("b", 5, two), ("c", 5, two)), (None, 0, 1)),
                ((("a", 5, (ROW[0],)), ("b", 2, (ROW[0], ROW[3])), ("c", 3, (ROW[0], ROW[3]))), (0, None, 1)),
                ((("a", 3, ((0, 0, 9, 2),)), ("b", 2, (ROW[0],)), ("c", 1, (ROW[1],))), (0, None, None)),
                ((("a", 3, ((0, 0, 9, 2), ROW[7])), ("b", 2, (ROW[0],)), ("c", 1, (ROW[1],))), (1, 0, 0)),
                ((("a", 1, three), ("b", 1, three), ("c", 1, three)), (0, 1, 2)),
                ((("a", 1, (ROW[2], ROW[0])), ("b", 1, (ROW[2],)), ("c", 1, (ROW[0],))), (0, None, 0))):
            self.same(best(labels)[0], wanted)
            self.check(labels)

    def test_weights_1_and_1000(self):
        wide = ("m", 1000, ((0, 0, 44, 2),))
        many = tuple((f"n{k}", 1, (ROW[k],)) for k in range(9))
        self.same(best((wide,) + many)[0], (0,) + (None,) * 9)
        self.check((wide,) + many)
        heavy = tuple((name, 112, boxes) for name, _, boxes in many)
        self.same(best((wide,) + heavy)[0], (None,) + (0,) * 9)
        self.check((wide,) + heavy)

    def test_no_two_labels_exclude_each_other(self):
        for labels in (spread(SPREAD), spread((3,) * 10), spread((1,) * 10), spread((5, 4, 3, 2, 1))):
            placement, evidence = best(labels)
            self.same(placement, (0,) * len(labels))
            self.assertEqual(count_of(evidence), 1)
            self.assertIs(accepts(labels, placement, evidence), True)

    def test_six_labels_of_eighteen_candidates(self):
        source = random.Random(104)
        splits = 0
        for _ in range(160):
            labels = some_labels(source, 6, 18, source.choice((4, 8, 12)), source.choice((1, 2, 5, 1000)))
            splits += count_of(self.check(labels)) > 1
        self.assertGreater(splits, 10)

    def test_three_candidates_each(self):
        source = random.Random(105)
        for _ in range(40):
            labels = []
            for k in range(6):
                boxes = []
                while len(boxes) < 3:
                    x, y, wide = source.randint(0, 9), source.randint(0, 9), source.random() < 0.5
                    box = (x, y, x + (7 if wide else 1), y + (1 if wide else 7))
                    if box not in boxes:
                        boxes.append(box)
                labels.append((f"n{k}", source.choice((99, 100, 101)), tuple(boxes)))
            self.check(tuple(labels))

    def test_all_equal_boxes(self):
        for many in (2, 5, 6, 10):
            labels = tuple((f"n{k}", k + 1, tuple(ROW[:3])) for k in range(many))
            placement, evidence = best(labels)
            self.same(placement, (None,) * (many - 3) + (0, 1, 2) if many > 2 else (0, 1))
            self.assertIs(accepts(labels, placement, evidence), True)

    def test_around_points(self):
        source = random.Random(106)
        for _ in range(12):
            labels = around_points(source, source.choice((3, 5, 7)), source.choice((5, 12, 20)),
                                   source.choice((1, 3, 1000)))
            placement, evidence = best(labels)
            self.assertIs(accepts(labels, placement, evidence), True)
            self.assertTrue(is_evidence(labels, evidence, all_places(labels), weight_of(labels, placement)))

    def test_ten_labels(self):
        source = random.Random(107)
        for _ in range(12):
            labels = some_labels(source, 10, 30, source.choice((6, 9, 14)), source.choice((1, 3, 1000)))
            try:
                placement, evidence = best(labels)
            except TooLarge as error:
                self.assertEqual(error.what, "search")
                continue
            self.assertIs(accepts(labels, placement, evidence), True)
            self.assertTrue(is_evidence(labels, evidence, all_places(labels), weight_of(labels, placement)))

    def test_the_bound(self):
        source = random.Random(108)
        rows = [some_labels(source, 6, 18, 6, 2) for _ in range(20)] + [HARD, LABELS, (), spread(SPREAD)]
        sizes = []
        for labels in rows:
            many = count_of(best(labels)[1])
            sizes.append(many)
            with mock.patch("trueatlas.placing.MOST_TUPLES", many):
                self.assertEqual(count_of(best(labels)[1]), many)
            for less in range(many):
                with mock.patch("trueatlas.placing.MOST_TUPLES", less):
                    with self.assertRaises(TooLarge) as caught:
                        best(labels)
                    self.assertEqual(caught.exception.what, "search")
        self.assertGreater(max(sizes), 10)

    def test_a_hard_one(self):
        self.assertGreater(count_of(self.check(HARD)), 10)

    def test_leaving_out_a_label(self):
        source = random.Random(109)
        for _ in range(30):
            labels = some_labels(source, 5, 12, 8)
            weight = weight_of(labels, best(labels)[0])
            for k, label in enumerate(labels):
                rest = labels[:k] + labels[k + 1:]
                left = weight_of(rest, best(rest)[0])
                self.assertTrue(weight - label[1] <= left <= weight)

    def test_moved_mirrored_greater(self):
        source = random.Random(110)
        for _ in range(20):
            labels = some_labels(source, 6, 18, 9)
            for way in WAYS:
                other = moved(labels, way)
                self.same(greedy(other), greedy(labels))
                self.same(best(other)[0], best(labels)[0])
                self.assertIs(accepts(other, *best(labels)), True)

    def test_groups_of_conflict(self):
        source = random.Random(111)
        for _ in range(40):
            labels = some_labels(source, 7, 18, source.choice((15, 25)))
            whole = weight_of(labels, best(labels)[0])
            parts = [tuple(labels[i] for i in group) for group in groups_of_conflict(labels)]
            self.assertEqual(whole, sum(weight_of(part, best(part)[0]) for part in parts))

    def test_the_same_again(self):
        labels = some_labels(random.Random(112), 6, 18, 6)
        self.same(best(labels), best(labels))

    def test_refused(self):
        self.refuses(best, ("labels", LABELS, NO_LABELS))


class AcceptsTest(Case):

    def yes(self, evidence, labels=LABELS, placement=BEST):
        self.assertIs(accepts(labels, placement, evidence), True, evidence)

    def no(self, evidence, labels=LABELS, placement=BEST):
        self.assertIs(accepts(labels, placement, evidence), False, evidence)

    def test_examples(self):
        self.yes(COVER)
        self.no(COVER, placement=(None, 0, None))

    def test_the_placement(self):
        # The evidence is right for this weight, and the placement is not allowed.
        labels = (("a", 3, (ROW[0],)), ("b", 4, (ROW[0],)))
        self.no(("cover", ((((0, 0),), 3), (((1, 0),), 4))), labels, (0, 0))
        self.yes(("cover", ((((0, 0), (1, 0)), 4),)), labels, (None, 0))
        self.no(("cover", ((((0, 0), (1, 0)), 4),)), labels, (0, None))
        self.no(("cover", ((((0, 0), (1, 0)), 4),)), labels, (None, None))

    def test_numbers(self):
        def cover(first, second):
            return ("cover", ((((0, 0), (1, 0)), first), (((1, 0), (2, 0)), second)))
        self.yes(cover(4, 3))
        for first, second in ((4, 4), (5, 3), (3, 4), (5, 2), (7, 0), (4, -3), (0, 7), (True, 6), (4, True), (4.0, 3),
                              ("4", 3), (None, 3), ((4,), 3), (10 ** 30, 3), (4, [3])):
            self.no(cover(first, second))
        ones = tuple((((0, 0), (1, 0)), 1) for _ in range(4)) + tuple((((1, 0), (2, 0)), 1) for _ in range(3))
        self.yes(("cover", ones))
        self.no(("cover", ones[1:]))
        self.no(("cover", ones + ones[:1]))
        self.no(("cover", ones + (ones[0][:1] + (0,),)))

    def test_one_is_not_true(self):
        labels = (("a", 1, (ROW[0],)),)
        self.yes(("cover", ((((0, 0),), 1),)), labels, (0,))
        self.no(("cover", ((((0, 0),), True),)), labels, (0,))
        self.no(("cover", ((((False, 0),), 1),)), labels, (0,))
        self.no(("cover", ((((0, False),), 1),)), labels, (0,))
        self.no(("cover", ((((0.0, 0),), 1),)), labels, (0,))
        self.no(("split", (False, 0), ("cover", ()), ("cover", ())), labels, (0,))
        self.yes(("split", (0, 0), ("cover", ()), ("cover", ())), labels, (0,))

    def test_groups(self):
        def cover(*groups):
            return ("cover", tuple((group, 1) for group in groups))
        labels = tuple((f"n{k}", 1, boxes) for k, boxes in enumerate(((ROW[0], ROW[1]), (ROW[1],), (ROW[2],))))
        first, second = ((0, 0), (0, 1)), ((0, 1), (1, 0))
        self.yes(cover(first, ((1, 0),), ((2, 0),)), labels, (0, 0, 0))
        self.no(cover(first, ((1, 0),)), labels, (0, 0, 0))
        for group in (((0, 1), (0, 0)), ((0, 0), (0, 0)), ((0, 0), (0, 1), (0, 1)), (), ((0, 0), (1, 0)),
                      ((0, 0), (2, 0)),
                      ((0, 0), (0, 1), (1, 0)), ((0, 0), (0, 2)), ((0, 0), (3, 0)), ((-1, 0), (0, 0)),
                      ((0, -1), (0, 0)),
                      [(0, 0), (0, 1)], ([0, 0], (0, 1)), ((0, 0), (0, 1, 0)), ((0, 0), (0,)), ((0, 0), None), (0, 0),
                      ((0, 0), (0, "1")), None, "ab", 0, True, ((),), (((0, 0), (0, 1)),)):
            self.no(cover(group, ((1, 0),), ((2, 0),)), labels, (0, 0, 0))
            self.no(cover(first, ((1, 0),), ((2, 0),), group), labels, (0, 0, 0))
            # There is room for a number of 2 beside the middle one of the three labels, and nothing to cover.
            self.no(("split", (1, 0), cover(group if group != ((0, 0), (1, 0)) else ()), SPLIT[3]))
        self.yes(("split", (1, 0), cover(((0, 0),), ((0, 0), (1, 0))), SPLIT[3]))
        # Such a group would do if its candidates excluded each other.
        self.no(cover(second, ((0, 0), (2, 0))), labels, (0, 0, 0))

    def test_within_one_label(self):
        labels = (("a", 5, ROW[:5]),)
        whole = tuple((0, k) for k in range(5))
        self.yes(("cover", ((whole, 5),)), labels, (3,))
        self.yes(("cover", ((whole, 2), (whole, 3))), labels, (0,))
        self.no(("cover", ((whole, 5),)), labels, (None,))
        self.no(("cover", ((whole[:4], 5),)), labels, (3,))
        self.no(("cover", ((whole[::-1], 5),)), labels, (3,))

    def test_splits(self):
        self.yes(SPLIT)
        self.no(("split", (1, 0), ("cover", ()), ("cover", ((((0, 0),), 4),))))
        for word in ("Split", "cover", "", None, b"split", ("split",), 0, True):
            self.no((word, *SPLIT[1:]))
        # The totals may be less than the number, and candidates outside of the set may be in groups.
        self.yes(("split", (0, 0), ("cover", ((((1, 0), (2, 0)), 3),)), ("cover", ((((1, 0), (2, 0)), 5),))))
        self.yes(("split", (0, 0), ("cover", ((((2, 0),), 3),)),
                  ("cover", ((((0, 0), (1, 0)), 2), (((1, 0), (2, 0)), 3)))))
        self.no(("split", (0, 0), ("cover", ((((2, 0),), 4),)), ("cover", ((((1, 0), (2, 0)), 5),))))
        self.no(("split", (0, 0), ("cover", ((((2, 0),), 3),)), ("cover", ((((1, 0), (2, 0)), 8),))))

    def test_candidates_of_splits(self):
        right = (("cover", ((((2, 0),), 3),)), ("cover", ((((1, 0), (2, 0)), 5),)))
        self.yes(("split", (0, 0), *right))
        for place in ((0, 1), (3, 0), (-1, 0), (0, -1), (0,), (0, 0, 0), [0, 0], None, 0, True, "00", (False, 0),
                      (0, None),
                      ((0, 0),), (0.0, 0)):
            self.no(("split", place, *right))
        # The candidate must be in the set that is left.
        self.no(("split", (0, 0), ("split", (0, 0), *right), right[1]))
        self.no(("split", (0, 0), ("split", (1, 0), ("cover", ()), right[0]), right[1]))
        self.yes(("split", (0, 0), ("split", (2, 0), ("cover", ()), ("cover", ())), right[1]))
        self.no(("split", (0, 0), right[0], ("split", (0, 0), *right)))

    def test_a_number_below_0(self):
        labels = (("a", 5, (ROW[0],)), ("b", 1, (ROW[0],)), ("c", 1, (ROW[1],)))
        self.yes(("cover", ((((0, 0), (1, 0)), 5), (((2, 0),), 1))), labels, (0, None, 0))
        # Beside the first label there is room for a number of -3 only, so no cover is right, not even an empty one.
        right = ("cover", ((((1, 0),), 1), (((2, 0),), 1)))
        for within in (("cover", ()), ("cover", ((((2, 0),), 1),)), ("split", (2, 0), ("cover", ()), ("cover", ()))):
            self.no(("split", (0, 0), within, right), labels, (None, 0, 0))

    def test_leaving_something_out(self):
        source = random.Random(113)
        seen = 0
        for _ in range(60):
            labels = some_labels(source, 5, 12, 8)
            placement, evidence = best(labels)
            self.yes(evidence, labels, placement)
            worse = [other for other in placements(labels) if is_free(labels, other)
                     and weight_of(labels, other) < weight_of(labels, placement)]
            self.no(evidence, labels, source.choice(worse))
            if evidence[0] == "cover":
                for k, (group, number) in enumerate(evidence[1]):
                    rest = evidence[1][:k] + evidence[1][k + 1:]
                    self.no(("cover", rest + ((group, number + 1),)), labels, placement)
                    for changed in (("cover", rest), ("cover", rest + ((group[1:], number),)),
                                    ("cover", rest + ((group, number - 1),))):
                        self.forms(labels, placement, changed)
                        seen += 1
            else:
                self.forms(labels, placement, (*evidence[:2], evidence[3], evidence[2]))
                self.forms(labels, placement, (*evidence[:2], evidence[2], evidence[2]))
                self.no(evidence[:3], labels, placement)
        self.assertGreater(seen, 50)

    def forms(self, labels, placement, evidence):
        """What is made of right evidence is judged by the words of the document."""
        wanted = is_evidence(labels, evidence, all_places(labels), weight_of(labels, placement))
        self.assertIs(accepts(labels, placement, evidence), wanted and is_free(labels, placement))

    def test_whatever_is_accepted_is_so(self):
        source = random.Random(114)
        accepted = refused = 0
        for _ in range(400):
            labels = some_labels(source, 3, 5, 5, 3)
            evidence = self.some_evidence(source, labels, all_places(labels))
            for placement in placements(labels):
                if accepts(labels, placement, evidence):
                    accepted += 1
                    self.assertEqual(weight_of(labels, placement), best_by_python(labels)[1])
                else:
                    refused += 1
                    self.forms(labels, placement, evidence)
        self.assertGreater(accepted, 50)
        self.assertGreater(refused, 100)

    def some_evidence(self, source, labels, chosen):
        """Something that has the form of evidence and is right at times."""
        if chosen and source.random() < 0.3:
            taken = source.choice(chosen)
            rest = [place for place in chosen if place != taken]
            return ("split", taken, self.some_evidence(source, labels, rest[1:]),
                    self.some_evidence(source, labels, rest))
        pairs = excluding_by_python(labels)
        found = []
        for place in chosen:
            if not any(place in group for group, _ in found):
                groups = [(place,)] + [pair for pair in pairs if place in pair] * 2
                found.append((source.choice(groups), labels[place[0]][1]))
        return ("cover", tuple(found))

    def test_how_much(self):
        labels = tuple((f"n{k}", 1, (ROW[k],)) for k in range(10))
        placement = (0,) * 10
        whole = bush(labels, all_places(labels))
        self.assertEqual(count_of(whole), 2 ** 11 - 1)
        self.assertTrue(is_evidence(labels, whole, all_places(labels), 10))
        self.no(whole, labels, placement)
        # With a cover in place of one of its trees of 63 tuples there are 1985.
        some = self.with_cover_at(labels, all_places(labels), 5)
        self.assertEqual(count_of(some), 1985)
        self.yes(some, labels, placement)

    def with_cover_at(self, labels, chosen, depth):
        """The tree of all splits for these candidates and as high a number, with a cover in place of one at a depth."""
        if depth == 0:
            return ("cover", tuple(((place,), 1) for place in chosen))
        return ("split", chosen[0], self.with_cover_at(labels, chosen[1:], depth - 1), bush(labels, chosen[1:]))

    def test_2000_and_2001(self):
        # There is always one cover more than there are splits, so there are never 2000.
        labels = tuple((f"n{k}", 1, (ROW[k],)) for k in range(10))
        chosen = all_places(labels)
        for many, wanted in ((1999, True), (2001, False)):
            evidence = self.of_size(labels, chosen, many)
            self.assertEqual(count_of(evidence), many)
            self.assertTrue(is_evidence(labels, evidence, chosen, 10))
            self.assertIs(accepts(labels, (0,) * 10, evidence), wanted)

    def of_size(self, labels, chosen, many):
        """Evidence for labels that do not exclude each other, of an odd number of tuples."""
        if many == 1:
            return ("cover", tuple(((place,), 1) for place in chosen))
        most = 2 ** len(chosen) - 1
        first = min(most, many - 2)
        return ("split", chosen[0], self.of_size(labels, chosen[1:], first),
                self.of_size(labels, chosen[1:], many - 1 - first))

    def test_deep(self):
        self.no(comb(3, COVER))
        self.no(comb(5000, COVER))
        deep = ()
        for _ in range(50000):
            deep = (deep,)
        for evidence in (deep, ("cover", deep), ("split", deep, COVER, COVER), ("split", (0, 0), deep, deep),
                         ("cover", ((deep, 1),)), ("cover", (((deep,), 1),)), ("cover", ((((0, 0),), deep),)),
                         (deep, ())):
            self.no(evidence)
        same = COVER
        for _ in range(40):
            same = ("split", (0, 0), same, same)
        self.no(same)

    def test_wrong_forms(self):
        for evidence in ODD_VALUES + [
                ("cover",), ("cover", (), ()), ("cover", COVER[1], None), ["cover", COVER[1]],
                ("cover", list(COVER[1])),
                ("Cover", COVER[1]), (b"cover", COVER[1]), (("cover",), COVER[1]), (None, COVER[1]), ("", COVER[1]),
                ("split", COVER[1]), ("cover", COVER), ("cover", None), ("cover", 7), ("cover", "ab"), COVER[1],
                (COVER,),
                ("cover", COVER[1] + (None,)), ("cover", COVER[1] + (((0, 0),),)), ("cover", COVER[1] + ((),)),
                ("cover", COVER[1] + ((((0, 0),), 1, 1),)), ("cover", (list(COVER[1][0]), COVER[1][1])),
                ("split", (1, 0), ("cover", ())), ("split", (1, 0)), ("split",), ("split", (1, 0), None, None),
                ("split", (1, 0), ("cover", ()), ("cover", ()), ("cover", ())), ("cover", (1, 0), COVER, COVER),
                ["split", (1, 0), ("cover", ()), ("cover", ((((0, 0),), 4), (((2, 0),), 3)))],
                ("split", (1, 0), ["cover", ()], ("cover", ((((0, 0),), 4), (((2, 0),), 3)))), {"cover": COVER[1]}, {}]:
            self.no(evidence)

    def test_no_labels(self):
        self.yes(("cover", ()), (), ())
        for evidence in (("cover", ((((0, 0),), 1),)), ("split", (0, 0), ("cover", ()), ("cover", ())), (), None):
            self.no(evidence, (), ())

    def test_refused(self):
        for evidence in (COVER, None, [0], ()):
            for wrong in NO_LABELS[::3]:
                self.bad("labels", accepts, wrong, BEST, evidence)
                self.bad("labels", accepts, wrong, None, evidence)
            for wrong in NO_PLACEMENTS:
                self.bad("placement", accepts, LABELS, wrong, evidence)


if __name__ == "__main__":
    unittest.main()
