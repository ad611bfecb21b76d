"""The faces of a plane: what is left of it without its points and edges."""

from trueatlas.checks import is_whole, need
from trueatlas.parts import least_joined
from trueatlas.planes import cycles_of, edge_segments, half_edges, halves_of, is_half, is_plane, sizes_of
from trueatlas.sides import crosses_east, is_on, is_point


def outer_cycles(sizes):
    """The indexes of the cycles that are outer ones: that of the face f stands at f - 1."""
    return [k for k, size in enumerate(sizes) if size > 0]


def encloses(points, cycle, p):
    """Whether a cycle encloses a point that is not on it."""
    crossed = sum(1 for i, j in halves_of(cycle) if crosses_east(p, points[i], points[j]))
    return crossed & 1 == 1


def least_around(sizes, around):
    """The face of the least of the outer cycles that are told to be around something, or 0."""
    if not around:
        return 0
    least = min(around, key=lambda k: sizes[k])
    return outer_cycles(sizes).index(least) + 1


def faces_by_cycle(plane, cycles, sizes):
    """The face to which each cycle belongs."""
    points, edges = plane
    part = least_joined(len(points), edges)
    outers = outer_cycles(sizes)
    found = []
    for k, cycle in enumerate(cycles):
        start = min(cycle)
        others = [m for m in outers if part[cycles[m][0]] != part[start]]
        around = [m for m in others if encloses(points, cycles[m], points[start])]
        found.append(least_around(sizes, [k] if sizes[k] > 0 else around))
    return found


def face_by_half(plane):
    """The face left of each half-edge."""
    cycles = cycles_of(plane)
    faces = faces_by_cycle(plane, cycles, sizes_of(plane, cycles))
    return {half: face for cycle, face in zip(cycles, faces) for half in halves_of(cycle)}


def count_faces(plane):
    """The number of faces of the plane."""
    return len(outer_cycles(sizes_of(plane, cycles_of(plane)))) + 1


def is_face(plane, value):
    """Whether the value is the index of a face of the plane."""
    return is_whole(value) and 0 <= value < count_faces(plane)


def is_free(plane, value):
    """Whether the value is a point of the map on no edge and at no point of the plane."""
    if not is_point(value) or value in plane[0]:
        return False
    return not any(is_on(value, segment) for segment in edge_segments(plane))


def neighbours_of_faces(plane):
    """For each face, the faces on the other sides of its edges."""
    left = face_by_half(plane)
    found = [[] for _ in range(count_faces(plane))]
    for i, j in half_edges(plane):
        if left[(i, j)] != left[(j, i)]:
            found[left[(i, j)]].append(left[(j, i)])
    return found


def steps_to(neighbours, goal):
    """How many steps each face is away from the goal."""
    steps = {goal: 0}
    front = [goal]
    while front:
        reached = []
        for face in front:
            for other in neighbours[face]:
                if other not in steps:
                    steps[other] = steps[face] + 1
                    reached.append(other)
        front = reached
    return steps


def face_list(plane):
    """The faces, tuples of the outer cycle, the holes and the size."""
    need(is_plane(plane), "plane")
    cycles = cycles_of(plane)
    sizes = sizes_of(plane, cycles)
    faces = faces_by_cycle(plane, cycles, sizes)
    found = []
    for face, outer in enumerate([None, *outer_cycles(sizes)]):
        own = [k for k in range(len(cycles)) if faces[k] == face]
        holes = tuple([k for k in own if k != outer])
        found.append((outer, holes, sum(sizes[k] for k in own)))
    return found


def face_left(plane, half):
    """The face left of a half-edge."""
    need(is_plane(plane), "plane")
    need(is_half(plane, half), "half")
    return face_by_half(plane)[half]


def face_at(plane, point):
    """Where a point of the map lies: at a point, on an edge or in a face."""
    need(is_plane(plane), "plane")
    need(is_point(point), "point")
    points, _ = plane
    if point in points:
        return ("point", points.index(point))
    for k, segment in enumerate(edge_segments(plane)):
        if is_on(point, segment):
            return ("edge", k)
    cycles = cycles_of(plane)
    sizes = sizes_of(plane, cycles)
    around = [k for k in outer_cycles(sizes) if encloses(points, cycles[k], point)]
    return ("face", least_around(sizes, around))


def parting_cycle(plane, first, second):
    """The first outer cycle that encloses exactly one of two points in faces, or None."""
    need(is_plane(plane), "plane")
    need(is_free(plane, first), "first")
    need(is_free(plane, second), "second")
    points, _ = plane
    cycles = cycles_of(plane)
    for k in outer_cycles(sizes_of(plane, cycles)):
        if encloses(points, cycles[k], first) != encloses(points, cycles[k], second):
            return k
    return None


def border_of(plane, face):
    """The half-edges whose left face is this one, in ascending order."""
    need(is_plane(plane), "plane")
    need(is_face(plane, face), "face")
    left = face_by_half(plane)
    return [half for half in half_edges(plane) if left[half] == face]


def way_between(plane, first, second):
    """A shortest way of faces from the first face to the second one; of several, the least list."""
    need(is_plane(plane), "plane")
    need(is_face(plane, first), "first")
    need(is_face(plane, second), "second")
    neighbours = neighbours_of_faces(plane)
    steps = steps_to(neighbours, second)
    way = [first]
    while way[-1] != second:
        face = way[-1]
        way.append(min(other for other in neighbours[face] if steps[other] < steps[face]))
    return way
