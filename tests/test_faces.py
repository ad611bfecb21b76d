"""Points 2 and 41 to 50: the faces of planes."""

import itertools
import random
import unittest

from tests.test_crossings import meeting_by_python
from tests.test_planes import BARE, NESTED, NO_PLANES, PLANE, halves, plane_by, some_planes
from tests.test_sides import NO_POINTS
from tests.tools import Case, ODD_VALUES, mirrored, moved, turned
from trueatlas.faces import border_of, face_at, face_left, face_list, parting_cycle, way_between
from trueatlas.planes import cycle_list, cycle_sizes, is_plane, part_list, plane_of

NO_FACES = ODD_VALUES[:3] + ODD_VALUES[5:] + [-1, 3, 4, 1.0, (1,), [1], "1"]
# A square with a hole, in which stands a square with a hole.
RINGS = plane_of([
    edge for low, high in ((0, 40), (5, 35), (10, 30), (15, 25))
    for edge in (((low, low), (high, low)), ((high, low), (high, high)), ((high, high), (low, high)),
                 ((low, high), (low, low)))
])
WIDE = 6
# Points in the four triangles into which the diagonals part a cell.
INNER = {"south": (3, 1), "east": (5, 3), "north": (3, 5), "west": (1, 3)}


class Cells:
    """A plane of sides and diagonals of cells, and its faces as rooms of triangles, four in each cell."""

    def __init__(self, source, size, chance):
        self.size = size
        self.sides = {}
        self.slants = {}
        pairs = []
        for x, y in itertools.product(range(size + 1), repeat=2):
            if x < size and source.random() < chance:
                self.sides[(x, y, "row")] = True
                pairs.append(((x, y), (x + 1, y)))
            if y < size and source.random() < chance:
                self.sides[(x, y, "column")] = True
                pairs.append(((x, y), (x, y + 1)))
        for x, y in itertools.product(range(size), repeat=2):
            slant = source.choice((None, "up", "down")) if source.random() < chance else None
            self.slants[(x, y)] = slant
            if slant == "up":
                pairs.append(((x, y), (x + 1, y + 1)))
            if slant == "down":
                pairs.append(((x, y + 1), (x + 1, y)))
        self.pairs = [((WIDE * a, WIDE * b), (WIDE * c, WIDE * d)) for (a, b), (c, d) in pairs]

    def room_of(self):
        """For each triangle, cells around the plane included, the number of its room; 0 is outside."""
        cells = list(itertools.product(range(-1, self.size + 1), repeat=2))
        room = {}
        for cell in cells:
            for side in INNER:
                if cell + (side,) not in room:
                    number = len(set(room.values()))
                    front = [cell + (side,)]
                    while front:
                        place = front.pop()
                        if place not in room and place[:2] in cells:
                            room[place] = number
                            front.extend(self.beside(place))
        return room

    def beside(self, place):
        """The triangles to which a step leads."""
        x, y, side = place
        slant = self.slants.get((x, y))
        joined = {None: ["ne", "se", "sw", "nw"], "up": ["nw", "se"], "down": ["ne", "sw"]}[slant]
        for pair in joined:
            if side[0] in pair:
                letter = pair.replace(side[0], "")
                yield x, y, {"n": "north", "s": "south", "e": "east", "w": "west"}[letter]
        wall = {"south": (x, y, "row"), "north": (x, y + 1, "row"), "west": (x, y, "column"),
                "east": (x + 1, y, "column")}[side]
        if wall not in self.sides:
            yield {"south": (x, y - 1, "north"), "north": (x, y + 1, "south"), "west": (x - 1, y, "east"),
                   "east": (x + 1, y, "west")}[side]


def point_in(place):
    """A point of the map within a triangle."""
    x, y, side = place
    return (WIDE * x + INNER[side][0], WIDE * y + INNER[side][1])


def some_cells():
    """Planes of cells, from crowded ones to sparse ones."""
    source = random.Random(41)
    found = []
    while len(found) < 24:
        cells = Cells(source, source.choice((2, 3, 4)), source.choice((0.3, 0.5, 0.7, 0.9)))
        if cells.pairs:
            found.append((cells, plane_of(cells.pairs)))
    return found


class FaceListTest(Case):

    def test_example(self):
        self.same(face_list(PLANE), [(None, (0,), -32), (1, (), 16), (2, (), 16)])

    def test_no_edges(self):
        self.same(face_list(BARE), [(None, (), 0)])
        self.same(face_at(BARE, (0, 0)), ("face", 0))
        self.same(border_of(BARE, 0), [])
        self.same(way_between(BARE, 0, 0), [0])
        self.same(parting_cycle(BARE, (0, 0), (9, 9)), None)

    def test_holes(self):
        self.same(cycle_sizes(NESTED), [-800, 800, -144, 144])
        self.same(face_list(NESTED), [(None, (0,), -800), (1, (2,), 656), (3, (), 144)])

    def test_rings_in_rings(self):
        sizes = cycle_sizes(RINGS)
        self.same(sizes, [-3200, 3200, -1800, 1800, -800, 800, -200, 200])
        self.same(face_list(RINGS), [(None, (0,), -3200), (1, (2,), 1400), (3, (4,), 1000), (5, (6,), 600),
                                     (7, (), 200)])

    def test_edges_without_area(self):
        plane = plane_of([((0, 0), (4, 0)), ((9, 9), (9, 12)), ((9, 12), (12, 12))])
        self.same(face_list(plane), [(None, (0, 1), 0)])
        within = plane_of([((0, 0), (20, 0)), ((20, 0), (0, 20)), ((0, 20), (0, 0)), ((2, 2), (5, 5)),
                           ((30, 2), (30, 5)), ((3, 6), (4, 6))])
        self.same([(face[0], len(face[1]), face[2]) for face in face_list(within)], [(None, 2, -400), (1, 2, 400)])

    def test_a_hole_at_the_height_of_corners(self):
        plane = plane_of([((0, 0), (10, -10)), ((10, -10), (20, 0)), ((20, 0), (10, 10)), ((10, 10), (0, 0)),
                          ((5, 0), (8, 0)), ((-5, 0), (-2, 0)), ((22, 0), (25, 0)), ((-5, 10), (-2, 10)),
                          ((-5, -10), (-2, -10))])
        self.same(face_list(plane), [(None, (0, 1, 2, 4, 6), -400), (3, (5,), 400)])
        self.same(plane[0][cycle_list(plane)[5][0]], (5, 0))

    def test_a_part_beside_its_own_faces(self):
        plane = plane_of([((0, 0), (9, 0)), ((9, 0), (9, 9)), ((9, 9), (0, 9)), ((0, 9), (0, 0)),
                          ((9, 0), (18, 0)), ((18, 0), (18, 9)), ((18, 9), (9, 9)), ((2, 2), (4, 4)), ((11, 3), (15, 5))])
        self.same([face[2] for face in face_list(plane)], [-324, 162, 162])
        self.same([len(face[1]) for face in face_list(plane)], [1, 1, 1])

    def test_numbers(self):
        for plane in some_planes():
            points, edges = plane
            faces = face_list(plane)
            self.assertEqual(len(points) - len(edges) + len(faces), 1 + len(part_list(plane)))
            self.assertEqual(sum(face[2] for face in faces), 0)
            outers = [k for k, size in enumerate(cycle_sizes(plane)) if size > 0]
            self.assertEqual([face[0] for face in faces], [None] + outers)
            told = sorted(outers + [k for face in faces for k in face[1]])
            self.assertEqual(told, list(range(len(cycle_list(plane)))))
            for face in faces:
                self.assertEqual(list(face[1]), sorted(face[1]))
                self.assertIsInstance(face, tuple)
                sizes = cycle_sizes(plane)
                own = list(face[1]) + ([] if face[0] is None else [face[0]])
                self.assertEqual(face[2], sum(sizes[k] for k in own))

    def test_kept(self):
        for plane in some_planes():
            sizes = sorted(face[2] for face in face_list(plane))
            for way in (turned, moved, mirrored):
                self.assertEqual(sorted(face[2] for face in face_list(plane_by(way, plane))), sizes)

    def test_a_returned_list_is_not_used_again(self):
        face_list(PLANE).clear()
        border_of(PLANE, 1).clear()
        way_between(PLANE, 0, 2).append(0)
        self.assertEqual(len(face_list(PLANE)), 3)
        self.same(border_of(PLANE, 1), [(0, 2), (2, 3), (3, 0)])
        self.same(way_between(PLANE, 0, 2), [0, 2])


class RoomsTest(Case):
    """Faces against rooms of triangles that are walked through."""

    def test_faces_are_rooms(self):
        for cells, plane in some_cells():
            room = cells.room_of()
            face_of = {}
            for place, number in room.items():
                kind, face = face_at(plane, point_in(place))
                self.assertEqual(kind, "face")
                self.assertEqual(face_of.setdefault(number, face), face)
            self.assertEqual(face_of[0], 0)
            self.assertEqual(sorted(face_of.values()), list(range(len(face_list(plane)))))
            for number, face in face_of.items():
                many = list(room.values()).count(number)
                if face:
                    self.assertEqual(face_list(plane)[face][2], many * WIDE * WIDE // 2)

    def test_parting(self):
        for cells, plane in some_cells():
            room = cells.room_of()
            places = random.Random(44).sample(sorted(room), 12)
            for first, second in itertools.product(places, repeat=2):
                cycle = parting_cycle(plane, point_in(first), point_in(second))
                self.assertEqual(cycle is None, room[first] == room[second])
                if cycle is not None:
                    self.assertGreater(cycle_sizes(plane)[cycle], 0)

    def test_left_of_halves(self):
        for _, plane in some_cells():
            points, _ = plane
            for i, j in halves(plane):
                (ax, ay), (bx, by) = points[i], points[j]
                wide, high = (bx - ax) // WIDE, (by - ay) // WIDE
                beside = ((ax + bx) // 2 - high, (ay + by) // 2 + wide)
                self.same(("face", face_left(plane, (i, j))), face_at(plane, beside))


class FaceAtTest(Case):

    def test_example(self):
        self.same((face_at(PLANE, (3, 1)), face_at(PLANE, (2, 2)), face_at(PLANE, (9, 9))),
                  (("face", 1), ("edge", 2), ("face", 0)))

    def test_points_and_edges(self):
        for plane in some_planes() + [NESTED, RINGS]:
            points, edges = plane
            for k, p in enumerate(points):
                self.same(face_at(plane, p), ("point", k))
            for k, (i, j) in enumerate(edges):
                x, y = points[i][0] + points[j][0], points[i][1] + points[j][1]
                if x & 1 == 0 and y & 1 == 0:
                    self.same(face_at(plane, (x // 2, y // 2)), ("edge", k))

    def test_nested(self):
        for p, wanted in (((1, 1), 1), ((5, 6), 2), ((6, 5), 2), ((15, 15), 1), ((30, 0), 0), ((-1, 4), 0),
                          ((3, 4), 1), ((3, 16), 1), ((17, 4), 1), ((25, 20), 0), ((25, 4), 0)):
            self.same(face_at(NESTED, p), ("face", wanted))
        self.same(face_at(NESTED, (5, 5)), ("edge", NESTED[1].index((2, 4))))
        self.same(face_at(NESTED, (6, 6)), ("point", 4))

    def test_rings(self):
        for x, wanted in ((-3, 0), (3, 1), (7, 2), (12, 3), (20, 4), (27, 3), (33, 2), (38, 1), (45, 0)):
            self.same(face_at(RINGS, (x, 20)), ("face", wanted))

    def test_a_point_without_edges(self):
        points, edges = PLANE
        plane = ((points[0], points[1], (1, 2), points[2], points[3]), ((0, 1), (0, 3), (0, 4), (1, 4), (3, 4)))
        self.assertIs(is_plane(plane), True)
        self.same(face_at(plane, (1, 2)), ("point", 2))
        self.same(face_at(plane, (1, 3)), ("face", 2))
        self.same(face_list(plane), face_list(PLANE))

    def test_refused(self):
        self.refuses(face_at, ("plane", PLANE, NO_PLANES), ("point", (3, 1), NO_POINTS))


class PartingTest(Case):

    def test_example(self):
        self.same(parting_cycle(PLANE, (3, 1), (1, 3)), 1)
        self.same(parting_cycle(PLANE, (1, 3), (9, 9)), 2)
        self.same(parting_cycle(PLANE, (9, 9), (-1, 3)), None)

    def test_the_first_one(self):
        self.same(parting_cycle(RINGS, (20, 20), (50, 50)), 1)
        self.same(parting_cycle(RINGS, (20, 20), (2, 2)), 3)
        self.same(parting_cycle(RINGS, (12, 20), (27, 20)), None)
        self.same(parting_cycle(NESTED, (5, 6), (1, 1)), 3)

    def test_what_can_be_joined(self):
        source = random.Random(42)
        for plane in some_planes():
            points, edges = plane
            ways = [(points[i], points[j]) for i, j in edges]
            for _ in range(20):
                p, q = [(source.randint(-31, 31), source.randint(-31, 31)) for _ in range(2)]
                kinds = (face_at(plane, p), face_at(plane, q))
                if p == q or kinds[0][0] != "face" or kinds[1][0] != "face":
                    continue
                cycle = parting_cycle(plane, p, q)
                self.assertEqual(cycle is None, kinds[0] == kinds[1])
                if all(meeting_by_python((min(p, q), max(p, q)), way) == ("none",) for way in ways):
                    self.same(cycle, None)

    def test_refused(self):
        no_places = NO_POINTS + [(0, 0), (4, 4), (2, 2), (4, 1), (0, 3)]
        self.refuses(parting_cycle, ("plane", PLANE, NO_PLANES), ("first", (3, 1), no_places),
                     ("second", (1, 3), no_places))
        self.bad("first", parting_cycle, BARE, (1, 1), (0, 0))
        self.bad("second", parting_cycle, BARE, (0, 0), (1, 1))


class SidesTest(Case):

    def test_left(self):
        self.same([face_left(PLANE, half) for half in ((0, 1), (1, 0), (0, 2), (0, 3), (3, 0), (2, 3), (3, 2))],
                  [0, 2, 1, 2, 1, 1, 0])
        self.same([face_left(NESTED, half) for half in ((2, 4), (4, 2), (2, 3), (3, 2), (0, 6), (6, 0))],
                  [2, 2, 1, 2, 1, 0])

    def test_left_is_the_face_of_the_cycle(self):
        for plane in some_planes():
            cycles = cycle_list(plane)
            for face, (outer, holes, _) in enumerate(face_list(plane)):
                own = [k for k in range(len(cycles)) if k in holes or k == outer]
                border = sorted(half for k in own for half in zip(cycles[k], cycles[k][1:] + cycles[k][:1]))
                self.same(border_of(plane, face), border)
                for half in border:
                    self.same(face_left(plane, half), face)

    def test_sides_are_equal_on_no_closed_way(self):
        for plane in some_planes():
            points, edges = plane
            for edge in edges:
                others = tuple(other for other in edges if other != edge)
                closed = any(set(edge) <= set(part) for part in part_list((points, others)))
                self.assertEqual(face_left(plane, edge) != face_left(plane, edge[::-1]), closed)

    def test_borders(self):
        self.same(border_of(PLANE, 0), [(0, 1), (1, 3), (2, 0), (3, 2)])
        self.same(border_of(PLANE, 2), [(0, 3), (1, 0), (3, 1)])
        self.same(border_of(NESTED, 1), [(0, 6), (1, 0), (2, 3), (3, 5), (5, 2), (6, 7), (7, 1)])
        self.same(border_of(NESTED, 2), [(2, 4), (2, 5), (3, 2), (4, 2), (5, 3)])

    def test_refused(self):
        no_halves = ODD_VALUES + [(1, 2), (2, 1), (0, 0), (0, 4), [0, 1], (0, True), (-1, 0)]
        self.refuses(face_left, ("plane", PLANE, NO_PLANES), ("half", (0, 1), no_halves))
        self.refuses(face_list, ("plane", PLANE, NO_PLANES))
        self.refuses(border_of, ("plane", PLANE, NO_PLANES), ("face", 2, NO_FACES))


def way_by_search(plane, first, second):
    """The least of the shortest ways, out of all of them."""
    pairs = {(face_left(plane, half), face_left(plane, half[::-1])) for half in halves(plane)}
    ways = [[first]]
    while not any(way[-1] == second for way in ways):
        ways = [way + [b] for way in ways for a, b in sorted(pairs) if a == way[-1] and b not in way]
    return min(way for way in ways if way[-1] == second)


class WayTest(Case):

    def test_example(self):
        self.same(way_between(PLANE, 0, 2), [0, 2])
        self.same(way_between(PLANE, 1, 1), [1])
        self.same(way_between(PLANE, 2, 1), [2, 1])

    def test_rings(self):
        self.same(way_between(RINGS, 0, 4), [0, 1, 2, 3, 4])
        self.same(way_between(RINGS, 4, 1), [4, 3, 2, 1])

    def test_the_least_of_several(self):
        # Four squares around a point: from one to the opposite one lead several ways.
        plane = plane_of([((x, y), (x + 5, y)) for x in (0, 5) for y in (0, 5, 10)]
                         + [((x, y), (x, y + 5)) for x in (0, 5, 10) for y in (0, 5)])
        self.same([face_at(plane, p)[1] for p in ((1, 1), (1, 6), (6, 1), (6, 6))], [1, 2, 3, 4])
        self.same(way_between(plane, 1, 4), [1, 0, 4])
        self.same(way_between(plane, 3, 2), [3, 0, 2])
        nine = plane_of([((x, y), (x + 5, y)) for x in (0, 5, 10) for y in (0, 5, 10, 15)]
                        + [((x, y), (x, y + 5)) for x in (0, 5, 10, 15) for y in (0, 5, 10)])
        for first, second in itertools.product(range(10), repeat=2):
            self.same(way_between(nine, first, second), way_by_search(nine, first, second))
        self.assertEqual(len(way_between(nine, face_at(nine, (7, 7))[1], 0)), 3)

    def test_as_a_search_tells(self):
        for plane in some_planes():
            many = len(face_list(plane))
            for first, second in itertools.product(range(0, many, 2), range(0, many, 3)):
                self.same(way_between(plane, first, second), way_by_search(plane, first, second))

    def test_refused(self):
        self.refuses(way_between, ("plane", PLANE, NO_PLANES), ("first", 1, NO_FACES), ("second", 0, NO_FACES))


if __name__ == "__main__":
    unittest.main()
