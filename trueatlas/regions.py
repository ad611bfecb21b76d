"""Sets of faces of a plane as areas."""

from trueatlas.areas import is_area, ways_of
from trueatlas.checks import is_between, need
from trueatlas.faces import count_faces, face_by_half
from trueatlas.overlays import overlay_of, rings_around, ways_along
from trueatlas.planes import is_plane

# The bit of the area; that of the face f is 1 << f.
INSIDE = 1


def ways_of_faces(plane, bits_by_face):
    """The ways along the edges of a plane, whose sides have the bits of their faces."""
    points, edges = plane
    left = face_by_half(plane)
    exact = [((x, 1), (y, 1)) for x, y in points]
    found = []
    for i, j in edges:
        bits = bits_by_face[left[(i, j)]] ^ bits_by_face[left[(j, i)]]
        found.extend(ways_along((exact[i], exact[j]), bits))
    return found


def are_chosen(plane, value):
    """Whether the value is a list of different indexes of faces of the plane without 0."""
    last = count_faces(plane) - 1
    if not isinstance(value, list) or not all(is_between(face, 1, last) for face in value):
        return False
    return len(set(value)) == len(value)


def area_of_faces(plane, chosen):
    """The normal area of the faces."""
    need(is_plane(plane), "plane")
    need(are_chosen(plane, chosen), "chosen")
    bits_by_face = [INSIDE if face in chosen else 0 for face in range(count_faces(plane))]
    return rings_around(overlay_of(ways_of_faces(plane, bits_by_face)), (INSIDE,))


def faces_within(plane, area):
    """The faces of the plane, in ascending order and without face 0, that the area contains."""
    need(is_plane(plane), "plane")
    need(is_area(area), "area")
    many = count_faces(plane)
    bits_by_face = [0, *[1 << face for face in range(1, many)]]
    _, _, left = overlay_of(ways_of_faces(plane, bits_by_face) + ways_of(area, INSIDE))
    bare = sorted({bits for bits in list(left.values()) if bits & INSIDE == 0})
    return [face for face in range(1, many) if bits_by_face[face] not in bare]
