"""Arcs: lines cut where they part, so that what several lines have in common is there once."""

from trueatlas.checks import is_between, is_pair, need
from trueatlas.sides import is_line

MOST_LINES = 12
LEAST_OF_CLOSED = 3


def is_closed(line):
    """Whether the last point of a line is its first one."""
    return line[0] == line[-1]


def is_track(value):
    """Whether the value is a line, open or closed, a closed one of at least three different points."""
    return is_line(value) and (not is_closed(value) or len(set(value)) >= LEAST_OF_CLOSED)


def are_tracks(value):
    """Whether the value is a list of at most 12 lines, open or closed."""
    return isinstance(value, list) and len(value) <= MOST_LINES and all(is_track(line) for line in value)


def places_of(line):
    """For each place of a line the points before it, at it and after it, None where there is none."""
    if is_closed(line):
        ring = line[:-1]
        return list(zip(ring[-1:] + ring[:-1], ring, ring[1:] + ring[:1]))
    return list(zip((None, *line[:-1]), line, (*line[1:], None)))


def neighbours_in(lines):
    """For each point of the lines, its neighbours; None stands for an end."""
    found = {}
    for line in lines:
        for before, p, after in places_of(line):
            found.setdefault(p, []).extend([before, after])
    return found


def junctions_of(lines):
    """The junctions of the lines, as the keys of a dict."""
    found = {}
    for p, near in neighbours_in(lines).items():
        if len(set(near)) != 2 or None in near:
            found[p] = True
    for line in lines:
        points = [p for before, p, after in places_of(line)]
        for before, p, after in places_of(line):
            if before == after or points.count(p) > 1:
                found[p] = True
    return found


def rows_of(line, junctions):
    """The rows of points into which a line is cut at its junctions."""
    if is_closed(line):
        ring = line[:-1]
        starts = [k for k, p in enumerate(ring) if p in junctions]
        start = starts[0] if starts else ring.index(min(ring))
        line = ring[start:] + ring[:start + 1]
    ends = (0, len(line) - 1)
    cuts = [k for k, p in enumerate(line) if p in junctions or k in ends]
    return [line[i:j + 1] for i, j in zip(cuts, cuts[1:])]


def arc_of(row):
    """The arc of a row of points: of the row and the same row backwards, the lesser one."""
    return min(row, row[::-1])


def arcs_and_ways(lines):
    """The arcs and the ways of lines that have been checked."""
    junctions = junctions_of(lines)
    rows_by_line = [rows_of(line, junctions) for line in lines]
    arcs = sorted({arc_of(row) for rows in rows_by_line for row in rows})
    number_of = {arc: number for number, arc in enumerate(arcs)}
    ways = []
    for rows in rows_by_line:
        ways.append(tuple([(number_of[arc_of(row)], arc_of(row) == row) for row in rows]))
    return (arcs, ways)


def row_along(arcs, step):
    """The points of an arc in the direction of a step of a way."""
    number, forward = step
    return arcs[number] if forward else arcs[number][::-1]


def line_along(arcs, way):
    """The line that a way joins of arcs, all of which have been checked."""
    points = [row_along(arcs, way[0])[0]]
    for step in way:
        points.extend(row_along(arcs, step)[1:])
    return tuple(points)


def is_step(arcs, value):
    """Whether the value is a pair of the index of an arc and True or False."""
    return is_pair(value) and is_between(value[0], 0, len(arcs) - 1) and isinstance(value[1], bool)


def is_way(arcs, value):
    """Whether the value is a way: each arc begins where the one before it ends."""
    if not isinstance(value, tuple) or not value or not all(is_step(arcs, step) for step in value):
        return False
    rows = [row_along(arcs, step) for step in value]
    return all(first[-1] == second[0] for first, second in zip(rows, rows[1:]))


def arcs_of(lines):
    """The arcs of the lines, and for each line its way along them."""
    need(are_tracks(lines), "lines")
    return arcs_and_ways(lines)


def joined(arcs, way):
    """The line that the way joins."""
    need(are_tracks(arcs), "arcs")
    need(is_way(arcs, way), "way")
    return line_along(arcs, way)
