"""Cleaning: segments are cut where they are in conflict, until they only share ends."""

from trueatlas.checks import is_whole, need
from trueatlas.crossings import meeting_of
from trueatlas.errors import TooLarge
from trueatlas.fractions import is_fraction
from trueatlas.sides import edges_along, is_line, is_point, is_segment, joining, turn_of

MOST_SEGMENTS = 40
MOST_LINES = 10
MOST_EDGES = 400


def are_segments(value):
    """Whether the value is a tuple of at most 40 segments."""
    return isinstance(value, tuple) and len(value) <= MOST_SEGMENTS and all(is_segment(item) for item in value)


def are_lines(value):
    """Whether the value is a tuple of at most 10 lines with at most 40 edges together."""
    if not isinstance(value, tuple) or len(value) > MOST_LINES or not all(is_line(line) for line in value):
        return False
    return sum(len(line) - 1 for line in value) <= MOST_SEGMENTS


def nearest_whole(number):
    """The greatest integer that is not greater than the fraction and a half."""
    n, d = number
    return (2 * n + d) // (2 * d)


def conflict_points(first, second):
    """The points, rounded, at which a conflict cuts two segments; none if they are in no conflict."""
    told = meeting_of(first, second)
    if told[0] == "cross":
        return [(nearest_whole(told[1]), nearest_whole(told[2]))]
    if told[0] == "touch" and told[1] in first and told[1] in second:
        return []
    return list(told[1:])


def close_pairs(edges):
    """The pairs i < j of indexes of ascending segments that the order alone does not show to be apart."""
    found = []
    for i, first in enumerate(edges):
        for j in range(i + 1, len(edges)):
            # All points of this segment and of those behind it are greater than the end of the first one.
            if edges[j][0] > first[1]:
                break
            found.append((i, j))
    return found


def are_clean(edges):
    """Whether different segments in ascending order are in no conflict."""
    return not any(conflict_points(edges[i], edges[j]) for i, j in close_pairs(edges))


def in_order(segment, cuts):
    """The cuts of a segment in the order in which they come on its way."""
    found = sorted(set(cuts))
    if segment[1][1] < segment[0][1]:
        found = sorted(found, key=lambda p: (p[0], -p[1]))
    return found


def rows_once(edges):
    """The rows of points that different segments in ascending order become when they are cut once."""
    cuts = [[] for _ in edges]
    for i, j in close_pairs(edges):
        for p in conflict_points(edges[i], edges[j]):
            for k in (i, j):
                if p not in edges[k]:
                    cuts[k].append(p)
    return [(edge[0], *in_order(edge, found), edge[1]) for edge, found in zip(edges, cuts)]


def edges_of_rows(rows):
    """The segments between neighbours in some rows of points, once each, in ascending order."""
    return sorted({edge for row in rows for edge in edges_along(row)})


def edges_after(rows):
    """The segments that come of a round, refused if they are too many."""
    edges = edges_of_rows(rows)
    if len(edges) > MOST_EDGES:
        raise TooLarge("edges")
    return edges


def refined(chain, row_by_edge):
    """The chain with the new points of its edges put between its neighbours."""
    points = [chain[0]]
    for p, q in zip(chain, chain[1:]):
        row = row_by_edge[joining(p, q)]
        if p > q:
            row = row[::-1]
        points.extend(row[1:])
    return tuple(points)


def chains_of(segments):
    """The cleaned segments, the chains of the given ones, and the number of rounds."""
    edges = sorted(set(segments))
    chains = list(segments)
    rounds = 0
    rows = rows_once(edges)
    while any(len(row) > 2 for row in rows):
        row_by_edge = {edge: row for edge, row in zip(edges, rows)}
        edges = edges_after(rows)
        chains = [refined(chain, row_by_edge) for chain in chains]
        rounds += 1
        rows = rows_once(edges)
    return (tuple(edges), tuple(chains), rounds)


def conflicts(segments):
    """The pairs of indexes of segments that are in conflict or equal."""
    need(are_segments(segments), "segments")
    many = range(len(segments))
    return [(i, j) for i in many for j in many if i < j and conflict_points(segments[i], segments[j])]


def is_clean(segments):
    """Whether the segments are different and no two of them are in conflict."""
    need(are_segments(segments), "segments")
    edges = sorted(set(segments))
    return len(edges) == len(segments) and are_clean(edges)


def rounded(x, y):
    """The whole point to which an exact point is moved."""
    need(is_fraction(x), "x")
    need(is_fraction(y), "y")
    return (nearest_whole(x), nearest_whole(y))


def cut_once(segments):
    """The segments that come when the different ones of these are cut once."""
    need(are_segments(segments), "segments")
    return tuple(edges_after(rows_once(sorted(set(segments)))))


def cleaned(segments):
    """The cleaning of the segments: edges, chains and the number of rounds."""
    need(are_segments(segments), "segments")
    return chains_of(segments)


def cleaned_lines(lines):
    """The cleaned segments of some lines, and the row of points that each line becomes."""
    need(are_lines(lines), "lines")
    segments = tuple([edge for line in lines for edge in edges_along(line)])
    edges, chains, _ = chains_of(segments)
    chain_by_edge = {edge: chain for edge, chain in zip(segments, chains)}
    return (edges, [refined(line, chain_by_edge) for line in lines])


def are_edges(value):
    """Whether the value is a tuple of different segments in ascending order."""
    if not isinstance(value, tuple) or not all(is_segment(edge) for edge in value):
        return False
    return all(first < second for first, second in zip(value, value[1:]))


def is_chain(value):
    """Whether the value is a tuple of at least two points."""
    return isinstance(value, tuple) and len(value) >= 2 and all(is_point(p) for p in value)


def has_form(value):
    """Whether the value has the form of a cleaning."""
    if not isinstance(value, tuple) or len(value) != 3:
        return False
    edges, chains, rounds = value
    if not isinstance(chains, tuple) or not all(is_chain(chain) for chain in chains):
        return False
    return are_edges(edges) and is_whole(rounds) and rounds >= 0


def goes_straight(segment, chain):
    """Whether a chain leads from end to end of its segment, and nowhere back in x or in y."""
    if chain[0] != segment[0] or chain[-1] != segment[1]:
        return False
    up = 1 if segment[1][1] >= segment[0][1] else -1
    ways = list(zip(chain, chain[1:]))
    return all(p != q and p[0] <= q[0] and up * p[1] <= up * q[1] for p, q in ways)


def is_near(p, segment, rounds):
    """Whether a point of the segment differs from p by at most half of the rounds in x and in y."""
    a, b = segment
    x, y = 2 * p[0], 2 * p[1]
    if x + rounds < 2 * a[0] or x - rounds > 2 * b[0]:
        return False
    if y + rounds < 2 * min(a[1], b[1]) or y - rounds > 2 * max(a[1], b[1]):
        return False
    # The segment and the square around p are convex: they meet unless x, y or the turn parts them.
    return 2 * abs(turn_of(a, b, p)) <= rounds * (b[0] - a[0] + abs(b[1] - a[1]))


def is_chain_of(segment, chain, rounds):
    """Whether a chain can be what its segment became."""
    return goes_straight(segment, chain) and all(is_near(p, segment, rounds) for p in chain)


def is_cleaning(segments, value):
    """Whether the value is right as a cleaning of the segments, whoever made it."""
    need(are_segments(segments), "segments")
    if not has_form(value):
        return False
    edges, chains, rounds = value
    if len(chains) != len(segments):
        return False
    if not all(is_chain_of(segment, chain, rounds) for segment, chain in zip(segments, chains)):
        return False
    if list(edges) != edges_of_rows(chains):
        return False
    if (rounds == 0) != (list(edges) == sorted(set(segments))):
        return False
    return are_clean(edges)
