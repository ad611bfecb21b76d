"""Planes: points and edges that meet only at common ends, their half-edges, cycles and parts."""

from trueatlas.checks import ascends, is_pair, is_whole, need
from trueatlas.cleaning import are_clean
from trueatlas.parts import groups_joined
from trueatlas.sides import are_points, is_on, is_point, joining

MOST_POINTS = 60
MOST_EDGES = 120


def is_edge(value, many):
    """Whether the value is a pair of two different indexes below this number, the lesser one first."""
    if not is_pair(value) or not is_whole(value[0]) or not is_whole(value[1]):
        return False
    return 0 <= value[0] < value[1] < many


def edge_segments(plane):
    """The segments for which the edges stand, in the order of the edges, which is ascending."""
    points, edges = plane
    return [(points[i], points[j]) for i, j in edges]


def is_bare(p, segments):
    """Whether a point lies on none of the segments of which it is no end."""
    return not any(is_on(p, segment) and p not in segment for segment in segments)


def is_plane(value):
    """Whether the value is a plane."""
    if not is_pair(value):
        return False
    points, edges = value
    if not are_points(points, 1, MOST_POINTS) or not ascends(points):
        return False
    if not isinstance(edges, tuple) or len(edges) > MOST_EDGES:
        return False
    if not all(is_edge(edge, len(points)) for edge in edges) or not ascends(edges):
        return False
    segments = edge_segments(value)
    return are_clean(segments) and all(is_bare(p, segments) for p in points)


def is_way(value):
    """Whether the value is a pair of different points, in either order."""
    return is_pair(value) and is_point(value[0]) and is_point(value[1]) and value[0] != value[1]


def are_ways(value):
    """Whether the value is a list of 1 to 120 pairs of different points."""
    return isinstance(value, list) and 1 <= len(value) <= MOST_EDGES and all(is_way(item) for item in value)


def plane_of(segments):
    """The plane whose edges are these segments."""
    need(are_ways(segments), "segments")
    edges = sorted({joining(p, q) for p, q in segments})
    points = sorted({p for edge in edges for p in edge})
    need(len(points) <= MOST_POINTS and are_clean(edges), "segments")
    index_of = {p: index for index, p in enumerate(points)}
    return (tuple(points), tuple([(index_of[p], index_of[q]) for p, q in edges]))


def is_half(plane, value):
    """Whether the value is a half-edge of the plane."""
    points, edges = plane
    if not is_pair(value):
        return False
    return any(is_edge(way, len(points)) and way in edges for way in (value, value[::-1]))


def half_edges(plane):
    """The half-edges of a plane in ascending order."""
    return sorted([*plane[1], *[(j, i) for i, j in plane[1]]])


def comes_before(first, second):
    """Whether one of two different directions comes first, counter-clockwise, with the south as the last one."""
    # Directions less than (0, 0) lead to the west or straight down: the second half of the turn.
    if (first < (0, 0)) != (second < (0, 0)):
        return second < (0, 0)
    return first[0] * second[1] - first[1] * second[0] > 0


def in_turn(directions):
    """The keys of some directions in the order of these directions, counter-clockwise."""
    row = []
    for k in directions:
        place = 0
        while place < len(row) and comes_before(directions[row[place]], directions[k]):
            place += 1
        row.insert(place, k)
    return row


def ends_beside(many, edges):
    """For each of as many points, the other ends of its edges."""
    others = [[] for _ in range(many)]
    for i, j in edges:
        others[i].append(j)
        others[j].append(i)
    return others


def points_around(plane):
    """For each point, the points to which it has edges, counter-clockwise."""
    points, edges = plane
    found = []
    for (x, y), row in zip(points, ends_beside(len(points), edges)):
        found.append(in_turn({k: (points[k][0] - x, points[k][1] - y) for k in row}))
    return found


def half_after(around, half):
    """The next half-edge, for the points around each point."""
    i, j = half
    return (j, around[j][around[j].index(i) - 1])


def cycles_along(halves, around):
    """The cycles in which some half-edges follow each other, for the points around each point."""
    seen = set()
    cycles = []
    for start in halves:
        if start in seen:
            continue
        cycle = []
        half = start
        while half not in seen:
            seen.add(half)
            cycle.append(half[0])
            half = half_after(around, half)
        cycles.append(tuple(cycle))
    return cycles


def cycles_of(plane):
    """The cycles of a plane that has been checked."""
    return cycles_along(half_edges(plane), points_around(plane))


def halves_of(cycle):
    """The half-edges of a cycle, in its order."""
    return list(zip(cycle, cycle[1:] + cycle[:1]))


def sizes_of(plane, cycles):
    """The sizes of the cycles of a plane."""
    points, _ = plane
    sizes = []
    for cycle in cycles:
        ways = [(points[i], points[j]) for i, j in halves_of(cycle)]
        sizes.append(sum(p[0] * q[1] - p[1] * q[0] for p, q in ways))
    return sizes


def next_half(plane, half):
    """The next half-edge behind a half-edge of the plane."""
    need(is_plane(plane), "plane")
    need(is_half(plane, half), "half")
    return half_after(points_around(plane), half)


def cycle_list(plane):
    """The cycles, tuples of the indexes of their points."""
    need(is_plane(plane), "plane")
    return cycles_of(plane)


def cycle_sizes(plane):
    """The sizes of the cycles, in their order."""
    need(is_plane(plane), "plane")
    return sizes_of(plane, cycles_of(plane))


def part_list(plane):
    """The parts, each a tuple of the indexes of its points in ascending order."""
    need(is_plane(plane), "plane")
    points, edges = plane
    return groups_joined(len(points), edges)
