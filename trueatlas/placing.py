"""Placing labels: greedily, as well as can be with evidence for it, and the judge of such evidence."""

from trueatlas.checks import need
from trueatlas.covers import Field, beside, heaviest, members, without
from trueatlas.evidence import MOST_TUPLES, evidence_for, is_right
from trueatlas.labels import do_exclude, is_labels, need_placement, stands_free, total_weight


def first_free(labels, i, taken):
    """The first candidate of a label that excludes none of those that are taken, or None."""
    for k in range(len(labels[i][2])):
        if not any(do_exclude(labels, (i, k), other) for other in taken):
            return k
    return None


def first_heaviest(field, labels):
    """The first of the placements with the greatest weight."""
    known = {}
    chosen = field.whole
    placement = []
    for i, (_, weight, boxes) in enumerate(labels):
        goal = heaviest(field, chosen, known)
        taken = None
        for k in range(len(boxes)):
            n = field.number_of[(i, k)]
            if n in members(chosen) and weight + heaviest(field, beside(field, chosen, n), known) == goal:
                taken = k
                chosen = beside(field, chosen, n)
                break
        placement.append(taken)
        chosen = without(chosen, field.mates[field.number_of[(i, 0)]])
    return tuple(placement)


def greedy(labels):
    """The placement that gives each label its first free candidate, the heaviest labels first."""
    need(is_labels(labels), "labels")
    placement = [None] * len(labels)
    taken = []
    for i in sorted(range(len(labels)), key=lambda at: -labels[at][1]):
        placement[i] = first_free(labels, i, taken)
        if placement[i] is not None:
            taken.append((i, placement[i]))
    return tuple(placement)


def best(labels):
    """The first best placement, and evidence that no allowed placement has a greater weight."""
    need(is_labels(labels), "labels")
    field = Field(labels)
    placement = first_heaviest(field, labels)
    evidence, _ = evidence_for(field, field.whole, total_weight(labels, placement), MOST_TUPLES)
    return (placement, evidence)


def accepts(labels, placement, evidence):
    """Whether the placement is allowed and the evidence shows that no allowed placement has a greater weight."""
    need_placement(labels, placement)
    return stands_free(labels, placement) and is_right(Field(labels), evidence, total_weight(labels, placement))
