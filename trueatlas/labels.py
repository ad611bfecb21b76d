"""Labels: the boxes at which names can be put, and which of them exclude each other."""

from itertools import combinations

from trueatlas.checks import ascends, is_between, is_name, need
from trueatlas.parts import groups_joined
from trueatlas.sides import is_point

MOST_LABELS = 10
MOST_CANDIDATES = 30
MOST_BOXES = 5
MOST_WEIGHT = 1000
FARTHEST = 4000
MOST_SIZE = 200
MOST_GAP = 20


def is_label_box(value):
    """Whether the value is a box of a label; it has a width and a height."""
    if not isinstance(value, tuple) or len(value) != 4:
        return False
    if not all(is_between(number, -FARTHEST, FARTHEST) for number in value):
        return False
    return value[0] < value[2] and value[1] < value[3]


def are_label_boxes(value):
    """Whether the value is a tuple of 1 to 5 different boxes."""
    if not isinstance(value, tuple) or not 1 <= len(value) <= MOST_BOXES:
        return False
    return all(is_label_box(box) for box in value) and len(set(value)) == len(value)


def is_label(value):
    """Whether the value is a label: a tuple of its name, its weight and its boxes."""
    if not isinstance(value, tuple) or len(value) != 3:
        return False
    name, weight, boxes = value
    return is_name(name) and is_between(weight, 1, MOST_WEIGHT) and are_label_boxes(boxes)


def is_labels(value):
    """Whether the value is labels: a tuple of at most 10 in ascending order of their different names."""
    if not isinstance(value, tuple) or len(value) > MOST_LABELS or not all(is_label(label) for label in value):
        return False
    if sum(len(boxes) for name, weight, boxes in value) > MOST_CANDIDATES:
        return False
    return ascends([name for name, weight, boxes in value])


def is_placement(labels, value):
    """Whether the value is a placement: for each label the index of a candidate, or None."""
    if not isinstance(value, tuple) or len(value) != len(labels):
        return False
    return all(place is None or is_between(place, 0, len(label[2]) - 1) for label, place in zip(labels, value))


def need_placement(labels, placement):
    """Refuse the first of these arguments that is wrong."""
    need(is_labels(labels), "labels")
    need(is_placement(labels, placement), "placement")


def candidates_of(labels):
    """The candidates in ascending order, pairs of the index of a label and that of one of its boxes."""
    return [(i, k) for i, label in enumerate(labels) for k in range(len(label[2]))]


def do_overlap(first, second):
    """Whether two boxes have more in common than points of their edges."""
    if first[2] <= second[0] or second[2] <= first[0]:
        return False
    return first[1] < second[3] and second[1] < first[3]


def do_exclude(labels, first, second):
    """Whether two different candidates exclude each other."""
    if first[0] == second[0]:
        return True
    return do_overlap(labels[first[0]][2][first[1]], labels[second[0]][2][second[1]])


def pairs_excluding(labels):
    """The pairs of candidates that exclude each other, in ascending order."""
    candidates = candidates_of(labels)
    return [(a, b) for a, b in combinations(candidates, 2) if do_exclude(labels, a, b)]


def stands_free(labels, placement):
    """Whether no two candidates that a placement takes exclude each other."""
    taken = [(i, k) for i, k in enumerate(placement) if k is not None]
    return not any([do_exclude(labels, a, b) for a, b in combinations(taken, 2)])


def total_weight(labels, placement):
    """The weight of a placement that has been checked."""
    return sum(label[1] for label, place in zip(labels, placement) if place is not None)


def excluding(labels):
    """The pairs of candidates that exclude each other, the lesser one first, in ascending order."""
    need(is_labels(labels), "labels")
    return pairs_excluding(labels)


def is_allowed(labels, placement):
    """Whether the placement is allowed."""
    need_placement(labels, placement)
    return stands_free(labels, placement)


def weight_of(labels, placement):
    """The weight of the placement, whether it is allowed or not."""
    need_placement(labels, placement)
    return total_weight(labels, placement)


def candidates_at(point, width, height, gap):
    """The boxes of this size above right, above left, below left and below right of the point."""
    need(is_point(point), "point")
    need(is_between(width, 1, MOST_SIZE), "width")
    need(is_between(height, 1, MOST_SIZE), "height")
    need(is_between(gap, 0, MOST_GAP), "gap")
    x, y = point
    right, left = (x + gap, x + gap + width), (x - gap - width, x - gap)
    above, below = (y + gap, y + gap + height), (y - gap - height, y - gap)
    sides = ((right, above), (left, above), (left, below), (right, below))
    return tuple([(x0, y0, x1, y1) for (x0, x1), (y0, y1) in sides])


def groups_of_conflict(labels):
    """The groups of the indexes of labels whose candidates are joined by exclusion."""
    need(is_labels(labels), "labels")
    return groups_joined(len(labels), [(a[0], b[0]) for a, b in pairs_excluding(labels)])
