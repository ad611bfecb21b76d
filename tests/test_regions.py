"""Points 60 and 61: sets of faces as areas."""

import random
import unittest

from tests.test_areas import NO_AREAS, some_pairs
from tests.test_faces import RINGS, point_in, some_cells
from tests.test_planes import BARE, NESTED, NO_PLANES, PLANE, some_planes
from tests.tools import Case, ODD_VALUES, without
from trueatlas.areas import (area_of, common, contains, difference, either, is_area, normal, side_in, size_of, union)
from trueatlas.faces import border_of, face_at, face_list
from trueatlas.planes import plane_of
from trueatlas.regions import area_of_faces, faces_within

NO_CHOSEN = without([]) + [
    [0], [1, 0], [3], [1, 3], [-1], [1, 1], [2, 1, 2], (1, 2), (), [True], [1, True], [1.0], ["1"], [None], [(1,)],
    [[1]], {1: 2}, {1, 2}, "1", 1,
]


def whole(p):
    """The exact point of a point of the map."""
    return ((p[0], 1), (p[1], 1))


def some_choices(seed):
    """Planes and some of their faces."""
    source = random.Random(seed)
    for plane in some_planes() + [plane for _, plane in some_cells()]:
        faces = list(range(1, len(face_list(plane))))
        for _ in range(3):
            yield plane, source.sample(faces, source.randint(0, len(faces)))


class AreaOfFacesTest(Case):

    def test_some(self):
        self.same(area_of_faces(PLANE, [1]), area_of((((0, 0), (4, 0), (4, 4)),)))
        self.same(area_of_faces(PLANE, [2, 1]), area_of((((0, 0), (4, 0), (4, 4), (0, 4)),)))
        self.same(area_of_faces(PLANE, []), ())
        self.same(area_of_faces(BARE, []), ())

    def test_holes(self):
        outer = ((0, 0), (20, 0), (20, 20), (0, 20))
        inner = ((4, 4), (16, 4), (4, 16))
        self.same(area_of_faces(NESTED, [1]), area_of((outer, ((4, 4), (4, 16), (16, 4)))))
        self.same(area_of_faces(NESTED, [2]), area_of((inner,)))
        self.same(area_of_faces(NESTED, [1, 2]), area_of((outer,)))

    def test_rings_in_rings(self):
        self.assertEqual([len(area_of_faces(RINGS, faces)) for faces in ([1], [2], [1, 3], [1, 2], [1, 2, 3, 4], [4])],
                         [2, 2, 4, 2, 1, 1])
        self.same(size_of(area_of_faces(RINGS, [1, 3])), (1400 + 600, 1))

    def test_sizes_and_points(self):
        for plane, chosen in some_choices(60):
            faces = face_list(plane)
            area = area_of_faces(plane, chosen)
            if is_area(area):
                self.same(normal(area), area)
                self.same(size_of(area), (sum(faces[face][2] for face in chosen), 1))

    def test_edges_with_one_side_in_the_set(self):
        for plane, chosen in some_choices(61):
            points, _ = plane
            left = {half: face for face in range(len(face_list(plane))) for half in border_of(plane, face)}
            kept = [half for half in left if left[half] in chosen and left[half[::-1]] not in chosen]
            area = area_of_faces(plane, chosen)
            lengths = sum(abs(points[i][k] - points[j][k]) for i, j in kept for k in (0, 1))
            ways = [way for ring in area for way in zip(ring, ring[1:] + ring[:1])]
            self.assertEqual(sum(abs(p[k][0] - q[k][0]) for p, q in ways for k in (0, 1)), lengths)
            for p, q in ways:
                self.assertTrue({p, q} <= {whole(point) for point in points})

    def test_rooms(self):
        source = random.Random(62)
        for cells, plane in some_cells():
            faces = list(range(1, len(face_list(plane))))
            chosen = source.sample(faces, source.randint(0, len(faces)))
            area = area_of_faces(plane, chosen)
            if not is_area(area):
                continue
            for place in cells.room_of():
                found = face_at(plane, point_in(place))[1]
                self.same(side_in(area, whole(point_in(place))), "in" if found in chosen else "out")

    def test_sets_of_faces(self):
        for plane, chosen in some_choices(63):
            other = [face for face in range(1, len(face_list(plane))) if face % 2]
            first, second = area_of_faces(plane, chosen), area_of_faces(plane, other)
            if not is_area(first) or not is_area(second):
                continue
            chosen, other = set(chosen), set(other)
            for call, faces in ((union, chosen | other), (common, chosen & other), (difference, chosen - other),
                                (either, chosen ^ other)):
                self.same(call(first, second), area_of_faces(plane, sorted(faces)))

    def test_not_changed(self):
        chosen = [2, 1]
        first = area_of_faces(PLANE, chosen)
        self.assertEqual(chosen, [2, 1])
        self.same(area_of_faces(PLANE, chosen), first)

    def test_refused(self):
        self.refuses(area_of_faces, ("plane", PLANE, NO_PLANES), ("chosen", [1], NO_CHOSEN))
        self.bad("chosen", area_of_faces, BARE, [1])
        self.bad("chosen", area_of_faces, BARE, [0])


class FacesWithinTest(Case):

    def test_some(self):
        self.same(faces_within(PLANE, area_of((((0, 0), (4, 0), (4, 4)),))), [1])
        self.same(faces_within(PLANE, area_of((((-1, -1), (9, -1), (9, 9), (-1, 9)),))), [1, 2])
        self.same(faces_within(PLANE, area_of((((0, 0), (4, 0), (4, 3), (3, 3)),))), [])
        self.same(faces_within(PLANE, ()), [])
        self.same(faces_within(BARE, area_of((((-9, -9), (9, -9), (9, 9)),))), [])

    def test_a_hole_in_the_area_and_in_a_face(self):
        frame = area_of((((0, 0), (20, 0), (20, 20), (0, 20)), ((4, 4), (16, 4), (4, 16))))
        self.same(faces_within(NESTED, frame), [1])
        self.same(faces_within(NESTED, area_of((((0, 0), (20, 0), (20, 20), (0, 20)),))), [1, 2])
        self.same(faces_within(NESTED, frame + frame[:1]), [2])
        little = area_of((((5, 5), (6, 5), (6, 6)),))
        self.same(faces_within(NESTED, frame[:1] + little), [1])

    def test_of_their_own_area(self):
        for plane, chosen in some_choices(64):
            area = area_of_faces(plane, chosen)
            if is_area(area):
                self.same(faces_within(plane, area), sorted(chosen))

    def test_as_contains_tells(self):
        found = []
        for (plane, chosen), (more, _) in zip(some_choices(65), some_pairs(65, 400)):
            area = area_of_faces(plane, chosen) + more
            faces = [(face, area_of_faces(plane, [face])) for face in range(1, len(face_list(plane)))]
            if is_area(area) and all(is_area(own) for _, own in faces):
                wanted = [face for face, own in faces if contains(area, own)]
                self.same(faces_within(plane, area), wanted)
                found.append((len(wanted), len(chosen)))
        self.assertGreater(sum(many for many, _ in found), 20)
        self.assertGreater(len([pair for pair in found if pair[0] != pair[1]]), 10)

    def test_many_faces(self):
        cells = [((x, y), (x + 1, y)) for x in range(6) for y in range(7)]
        cells += [((x, y), (x, y + 1)) for x in range(7) for y in range(6)]
        plane = plane_of(cells)
        self.assertEqual(len(face_list(plane)), 37)
        self.assertEqual(len(faces_within(plane, area_of((((0, 0), (6, 0), (6, 6), (0, 6)),)))), 36)
        self.assertEqual(len(faces_within(plane, area_of((((0, 0), (6, 0), (0, 6)),)))), 15)

    def test_a_new_list(self):
        area = area_of((((0, 0), (4, 0), (4, 4)),))
        faces_within(PLANE, area).append(9)
        self.same(faces_within(PLANE, area), [1])

    def test_refused(self):
        area = area_of((((0, 0), (4, 0), (4, 4)),))
        self.refuses(faces_within, ("plane", PLANE, NO_PLANES), ("area", area, NO_AREAS[::3] + ODD_VALUES[:4]))


if __name__ == "__main__":
    unittest.main()
