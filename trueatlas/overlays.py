"""Overlays: ways cut where they meet, and what lies on both sides of their pieces.

A way is a tuple (p, q, bits) of two triples and an integer. Each bit stands for one area: whoever crosses the way
enters or leaves the areas whose bits are set in it. An overlay is a tuple (points, around, left): triples in ascending
order; for each the points to which pieces lead, counter-clockwise; and for each half-edge the bits of the areas on its
left.
"""

from trueatlas.cleaning import close_pairs
from trueatlas.planes import cycles_along, ends_beside, in_turn
from trueatlas.sides import joining
from trueatlas.triples import (ascending, crosses_to_east, crossing_of, direction_of, exact_of, line_through, side_of,
                               triple_of)


def ways_along(points, bits):
    """The ways between neighbours in a row of exact points."""
    row = [triple_of(p) for p in points]
    return [(p, q, bits) for p, q in zip(row, row[1:])]


def bits_at(ways, p):
    """The bits of the areas around a point that is on no way."""
    found = 0
    for a, b, bits in ways:
        if crosses_to_east(p, a, b):
            found = found ^ bits
    return found


def bits_by_edge(rows):
    """For rows (i, j, bits), the bits of each edge that does not count for nothing, in ascending order."""
    found = {}
    for i, j, bits in rows:
        edge = joining(i, j)
        found[edge] = found.get(edge, 0) ^ bits
    return {edge: found[edge] for edge in sorted(found) if found[edge] != 0}


def numbers_of(points):
    """The index of each point."""
    return {p: index for index, p in enumerate(points)}


def ends_between(edge, sides, other, points):
    """The ends of an edge that lie between those of another one, for their sides of the line of the other one."""
    return [points[k] for k, side in zip(edge, sides) if side == 0 and other[0] < k < other[1]]


def cuts_of(points, edges):
    """For each of some ascending edges, the points between its ends at which it meets another one."""
    lines = [line_through(points[i], points[j]) for i, j in edges]
    cuts = [[] for _ in edges]
    for m, n in close_pairs(edges):
        first = [side_of(lines[n], points[k]) for k in edges[m]]
        second = [side_of(lines[m], points[k]) for k in edges[n]]
        across, along = first[0] * first[1], second[0] * second[1]
        if across > 0 or along > 0:
            continue
        if across < 0 and along < 0:
            p = crossing_of(lines[m], lines[n])
            cuts[m].append(p)
            cuts[n].append(p)
        else:
            cuts[m].extend(ends_between(edges[n], second, edges[m], points))
            cuts[n].extend(ends_between(edges[m], first, edges[n], points))
    return cuts


def pieces_of(ways):
    """The points in ascending order, and the bits of the pieces between them."""
    ends = ascending([p for a, b, _ in ways for p in (a, b)])
    number_of = numbers_of(ends)
    whole = bits_by_edge([(number_of[a], number_of[b], bits) for a, b, bits in ways])
    cuts = cuts_of(ends, list(whole))
    points = ascending(ends + [p for row in cuts for p in row])
    number_of = numbers_of(points)
    pieces = []
    for (i, j), row in zip(list(whole), cuts):
        places = sorted({number_of[p] for p in [ends[i], ends[j], *row]})
        pieces.extend([(m, n, whole[(i, j)]) for m, n in zip(places, places[1:])])
    return (points, bits_by_edge(pieces))


def points_beside(points, pieces):
    """For each point, the points to which pieces lead, counter-clockwise."""
    found = []
    for p, row in zip(points, ends_beside(len(points), list(pieces))):
        found.append(in_turn({k: direction_of(p, points[k]) for k in row}))
    return found


def spread(left, around, pieces, start, outside):
    """Tell the bits left of all half-edges of a part, for those before the first direction of one of its points."""
    front = [(start, 0, outside)]
    while front:
        i, first, bits = front.pop()
        row = around[i]
        if (i, row[0]) in left:
            continue
        for k in row[first:] + row[:first]:
            front.append((k, around[k].index(i) + 1, bits))
            bits = bits ^ pieces[joining(i, k)]
            left[(i, k)] = bits


def overlay_of(ways):
    """The overlay of some ways."""
    points, pieces = pieces_of(ways)
    around = points_beside(points, pieces)
    left = {}
    for start in reversed(range(len(points))):
        if around[start] and (start, around[start][0]) not in left:
            # This is the greatest point of its part. Nothing of the part lies to the east of it, and there its first
            # direction has not come yet.
            spread(left, around, pieces, start, bits_at(ways, points[start]))
    return (points, around, left)


def corners_of(points, cycle):
    """The points of a cycle at which it does not go straight on, from the least one on."""
    row = []
    for i, j, k in zip(cycle[-1:] + cycle[:-1], cycle, cycle[1:] + cycle[:1]):
        if side_of(line_through(points[i], points[j]), points[k]) != 0:
            row.append(j)
    least = min(row)
    return min([tuple(row[k:] + row[:k]) for k in range(len(row)) if row[k] == least])


def rings_around(overlay, wanted):
    """The normal area of what has one of the wanted bits in an overlay."""
    points, around, left = overlay
    kept = {}
    for i, j in left:
        if left[(i, j)] in wanted and left[(j, i)] not in wanted:
            kept[(i, j)] = True
    near = [[k for k in row if (i, k) in kept or (k, i) in kept] for i, row in enumerate(around)]
    rings = sorted([corners_of(points, cycle) for cycle in cycles_along(list(kept), near)])
    return tuple([tuple([exact_of(points[k]) for k in ring]) for ring in rings])
