"""Candidates of labels by their numbers, and covers of sets of them.

A set of candidates is an integer here: its bit n tells whether the candidate n is in it, the n-th of all in ascending
order.
"""

from trueatlas.labels import candidates_of, do_exclude


def members(chosen):
    """The numbers in a set, in ascending order."""
    return [n for n in range(chosen.bit_length()) if (chosen >> n) & 1]


def set_of(numbers):
    """The set of some different numbers."""
    return sum([1 << n for n in numbers])


class Field:
    """The candidates of labels: for each its weight, its rivals, who exclude it, and its mates, of the same label."""

    def __init__(self, labels):
        places = candidates_of(labels)
        numbers = list(range(len(places)))
        self.places = places
        self.number_of = {place: n for n, place in enumerate(places)}
        self.whole = set_of(numbers)
        self.weights = [labels[i][1] for i, k in places]
        self.mates = [set_of([m for m in numbers if places[m][0] == i]) for i, k in places]
        self.rivals = []
        for n in numbers:
            self.rivals.append(set_of([m for m in numbers if m != n and do_exclude(labels, places[n], places[m])]))


def without(chosen, others):
    """What of a set is not in the other one."""
    return chosen ^ (chosen & others)


def beside(field, chosen, n):
    """The candidates of a set, other than this one, that it does not exclude."""
    return without(chosen, field.rivals[n] | 1 << n)


def labels_in(field, chosen):
    """A set parted by labels, in their order."""
    found = []
    while chosen:
        found.append(chosen & field.mates[members(chosen)[0]])
        chosen = without(chosen, found[-1])
    return found


def cover_by_labels(field, chosen):
    """The cover of a set whose groups are the candidates of one label each."""
    return [(group, field.weights[members(group)[0]]) for group in labels_in(field, chosen)]


def do_all_exclude(field, group):
    """Whether any two candidates of a set exclude each other."""
    return all(without(group, field.rivals[n]) == 1 << n for n in members(group))


def next_to_cover(field, left, rest):
    """The candidate that is covered next, for the weights that are left to cover."""
    numbers = members(left)
    for n in numbers:
        # One group covers all that this one excludes: no cover can do better here.
        if do_all_exclude(field, (left & field.rivals[n]) | 1 << n):
            return n
    return min(numbers, key=lambda m: rest[m])


def group_around(field, left, n):
    """Candidates of a set, this one among them, any two of which exclude each other, as many as come easily."""
    group = 1 << n
    near = left & field.rivals[n]
    while near:
        best = max(members(near), key=lambda m: len(members(near & field.rivals[m])))
        group = group | 1 << best
        near = near & field.rivals[best]
    return group


def cover_by_groups(field, chosen):
    """A cover of a set by groups of several labels."""
    rest = {n: field.weights[n] for n in members(chosen)}
    left = chosen
    pairs = []
    while left:
        n = next_to_cover(field, left, rest)
        group, number = group_around(field, left, n), rest[n]
        pairs.append((group, number))
        for m in members(group):
            rest[m] -= number
            if rest[m] <= 0:
                left = without(left, 1 << m)
    return pairs


def total_of(pairs):
    """The total of the numbers of a cover."""
    return sum(number for group, number in pairs)


def cover_of(field, chosen):
    """A cover of a set with a small total; if the set is of two labels at most, with the least one.

    Of two labels, either all candidates exclude each other, and groups of both come out, or their weights can stand
    together, and the groups of each label have no greater total.
    """
    return min([cover_by_groups(field, chosen), cover_by_labels(field, chosen)], key=total_of)


def heaviest(field, chosen, known):
    """The greatest weight of an allowed placement that takes only candidates of a set; known ones are kept."""
    if chosen == 0:
        return 0
    if chosen not in known:
        label = labels_in(field, chosen)[0]
        others = without(chosen, label)
        found = [heaviest(field, others, known)]
        for n in members(label):
            found.append(field.weights[n] + heaviest(field, beside(field, others, n), known))
        known[chosen] = max(found)
    return known[chosen]
