"""Parts: what pairs of indexes join, directly or by way of others."""


def least_joined(many, pairs):
    """For each of as many indexes, the least one that is joined with it."""
    least = list(range(many))
    for i, j in pairs:
        low, high = min(least[i], least[j]), max(least[i], least[j])
        least = [low if k == high else k for k in least]
    return least


def groups_joined(many, pairs):
    """The groups of joined indexes, each ascending, in the order of their first ones."""
    least = least_joined(many, pairs)
    return [tuple([k for k, low in enumerate(least) if low == first]) for first in sorted(set(least))]
