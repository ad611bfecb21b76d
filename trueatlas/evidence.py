"""Evidence that no allowed placement has a greater weight: how it is made, and how it is judged."""

from trueatlas.checks import ascends, is_pair, is_whole
from trueatlas.covers import beside, cover_of, do_all_exclude, labels_in, members, set_of, total_of, without
from trueatlas.errors import TooLarge

MOST_TUPLES = 2000


def number_at(field, value):
    """The number of a candidate, or None if the value is no candidate."""
    if not is_pair(value) or not is_whole(value[0]) or not is_whole(value[1]):
        return None
    return field.number_of.get(value)


def is_group(field, value):
    """Whether the value is a group: at least one candidate, in ascending order, any two of which exclude each other."""
    if not isinstance(value, tuple) or not value:
        return False
    numbers = [number_at(field, place) for place in value]
    return None not in numbers and ascends(numbers) and do_all_exclude(field, set_of(numbers))


def is_count(field, value):
    """Whether the value is a pair of a group and an integer greater than 0."""
    return is_pair(value) and is_whole(value[1]) and value[1] > 0 and is_group(field, value[0])


def does_cover(field, chosen, most, pairs):
    """Whether the value is a cover of a set of candidates with a total that is not greater than the most."""
    if not isinstance(pairs, tuple) or not all(is_count(field, pair) for pair in pairs):
        return False
    covered = [0] * len(field.places)
    for group, number in pairs:
        for place in group:
            covered[field.number_of[place]] += number
    return total_of(pairs) <= most and all(covered[n] >= field.weights[n] for n in members(chosen))


def is_split(field, chosen, value):
    """Whether a tuple has the form of a split at a candidate of a set, whatever is told to be evidence below it."""
    return len(value) == 4 and value[0] == "split" and number_at(field, value[1]) in members(chosen)


def parted(field, chosen, most, n):
    """What a split at a candidate leaves to show: two sets, each with its number."""
    return ((beside(field, chosen, n), most - field.weights[n]), (without(chosen, 1 << n), most))


def is_right(field, value, most):
    """Whether the value is evidence for all candidates and this number."""
    front = [(value, field.whole, most)]
    many = 0
    while front:
        value, chosen, most = front.pop()
        many += 1
        if many > MOST_TUPLES or not isinstance(value, tuple):
            return False
        if is_split(field, chosen, value):
            parts = parted(field, chosen, most, field.number_of[value[1]])
            front.extend([(below, *part) for below, part in zip(value[2:], parts)])
        elif len(value) != 2 or value[0] != "cover" or not does_cover(field, chosen, most, value[1]):
            return False
    return True


def told_cover(field, pairs):
    """The cover as it is told, with its candidates instead of their numbers."""
    return ("cover", tuple([(tuple([field.places[n] for n in members(group)]), number) for group, number in pairs]))


def lack_at(field, chosen, most, n):
    """By how much the covers of both sets of a split at a candidate are too great, together."""
    return sum([max(total_of(cover_of(field, part)) - number, 0) for part, number in parted(field, chosen, most, n)])


def next_to_split(field, chosen, most):
    """The candidate at which a set of three labels or more is split: after it, covers are least too great.

    It is of none of the two labels with the most candidates. So there are no more splits than if each of the other
    labels was split as a whole, and what is left of two labels needs none.
    """
    labels = sorted(labels_in(field, chosen), key=lambda label: len(members(label)))
    numbers = [n for label in labels[:-2] for n in members(label)]
    return min(numbers, key=lambda n: lack_at(field, chosen, most, n))


def evidence_for(field, chosen, most, room):
    """Evidence for a set of candidates, and of how many tuples it is; refused if there is no room for them."""
    if room < 1:
        raise TooLarge("search")
    pairs = cover_of(field, chosen)
    if total_of(pairs) <= most:
        return (told_cover(field, pairs), 1)
    n = next_to_split(field, chosen, most)
    (first, less), (second, same) = parted(field, chosen, most, n)
    taking, many = evidence_for(field, first, less, room - 1)
    leaving, more = evidence_for(field, second, same, room - 1 - many)
    return (("split", field.places[n], taking, leaving), 1 + many + more)
