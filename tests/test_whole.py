"""What the points promise between the modules, each promise on ways that go through several of them."""

import itertools
import random
import unittest
from fractions import Fraction

from tests.test_asking import some_things
from tests.test_changes import some_changes
from tests.test_painting import each_point, some_map
from tests.test_shapes import some_ring, some_shape
from tests.tools import Case, grid, some_segments
from trueatlas.arcs import arcs_of, joined
from trueatlas.areas import (area_of, common, contains, difference, either, is_area, is_same, normal, overlap, rest_of,
                             side_in, size_of, union)
from trueatlas.asking import at_point, in_box, meeting, nearest
from trueatlas.changes import made, opposite
from trueatlas.cleaning import cleaned, cleaned_lines, conflicts, cut_once, is_clean, is_cleaning
from trueatlas.crossings import meeting as meeting_of_segments
from trueatlas.errors import MapError, TooLarge
from trueatlas.faces import border_of, face_at, face_left, face_list, parting_cycle, way_between
from trueatlas.fractions import is_fraction, less, minus, plus
from trueatlas.journal import Journal
from trueatlas.labels import candidates_at, excluding, groups_of_conflict, is_allowed, is_labels, weight_of
from trueatlas.maptexts import map_text, read_map
from trueatlas.painting import colour_at, covers, owner_at, picture
from trueatlas.placing import accepts, best, greedy
from trueatlas.planes import cycle_list, cycle_sizes, is_plane, part_list, plane_of
from trueatlas.regions import area_of_faces, faces_within
from trueatlas.rings import hull_of, is_hull, is_ring, place_in, ring_of
from trueatlas.rings import size_of as size_of_ring
from trueatlas.shapes import box_of, has_point, is_map, lies_in, meet, meets_box, square_distance
from trueatlas.sides import foot_of, gap_of, lies_on, nearest_edge
from trueatlas.simplifying import can_go, simplified, simplified_lines, taken
from trueatlas.stores import Store
from trueatlas.tiles import changed_tiles, joined as joined_sheets, packed_sheet, reach, tile_picture, touched_tiles
from trueatlas.tiles import unpacked_sheet
from trueatlas.trees import in_box_by, is_tree, tree_of


def some_plane(source, many, reach_of_all):
    """A plane of cleaned segments."""
    while True:
        edges, _, _ = cleaned(some_segments(source, many, reach_of_all))
        if len(edges) <= 120 and len({p for edge in edges for p in edge}) <= 60:
            return plane_of(list(edges))


def exact(p):
    return ((p[0], 1), (p[1], 1))


def some_area(source, reach_of_all):
    """An area with the rings of some shape."""
    return area_of(tuple(some_ring(source, reach_of_all) for _ in range(source.randint(0, 3))))


class GeometryTest(Case):

    def test_distances(self):
        """The feet, the gaps, the distances of shapes and the nearest things are of one mind."""
        source = random.Random(1)
        for _ in range(60):
            shape = ("line", tuple(p for p, _ in itertools.groupby(
                (source.randint(0, 9), source.randint(0, 9)) for _ in range(5))) + ((20, 20),))
            p = (source.randint(-3, 12), source.randint(-3, 12))
            index, gap = nearest_edge(p, shape[1])
            self.same(square_distance(shape, p), gap)
            self.same(nearest((("a", "k", shape),), p, None, 1), [("a", gap)])
            edge = tuple(sorted(shape[1][index:index + 2]))
            self.same(gap_of(p, edge), gap)
            self.assertIs(gap == (0, 1), has_point(shape, p))
            self.assertTrue(is_fraction(foot_of(p, edge)))
            for a, b in zip(shape[1], shape[1][1:]):
                self.assertFalse(less(gap_of(p, tuple(sorted((a, b)))), gap))

    def test_points_of_areas(self):
        """A shape of an area, the area of its rings, and the places in its rings tell the same."""
        source = random.Random(2)
        for _ in range(40):
            rings = tuple(some_ring(source, 8) for _ in range(source.randint(1, 3)))
            shape, area = ("area", rings), area_of(rings)
            for p in grid(-1, 9)[::3]:
                side = side_in(area, exact(p))
                self.assertIs(has_point(shape, p), side != "out")
                self.assertIs(square_distance(shape, p) == (0, 1), side != "out")
                self.assertIs(at_point((("a", "k", shape),), p) == ["a"], side != "out")
                if len(rings) == 1:
                    self.same(place_in(p, rings[0]), side)

    def test_rings_and_areas(self):
        source = random.Random(3)
        for _ in range(40):
            ring = some_ring(source, 9)
            self.same(ring_of(ring[::-1]), ring)
            self.same(size_of(area_of((ring,))), (size_of_ring(ring), 1))
            hull = hull_of(ring)
            self.assertIs(is_hull(ring, hull), True)
            self.assertIs(contains(area_of((hull,)), area_of((ring,))), True)
            self.assertIs(is_ring(hull), True)

    def test_meetings(self):
        """Segments meet as lines that are their shapes, and are in conflict if they meet otherwise than at ends."""
        source = random.Random(4)
        for _ in range(200):
            first, second = some_segments(source, 2, 6)
            told = meeting_of_segments(first, second)
            self.assertIs(meet(("line", first), ("line", second)), told != ("none",))
            self.same(meeting((("a", "k", ("line", first)),), ("line", second)), ["a"] if told != ("none",) else [])
            at_ends = told[0] == "touch" and told[1] in first and told[1] in second
            self.assertIs(conflicts((first, second)) == [], told == ("none",) or at_ends)


class CleaningAndPlanesTest(Case):

    def test_a_cleaning_is_clean_and_a_plane(self):
        source = random.Random(5)
        for _ in range(30):
            segments = some_segments(source, 8, 12)
            cleaning = edges, chains, rounds = cleaned(segments)
            self.assertIs(is_cleaning(segments, cleaning), True)
            self.assertIs(is_clean(edges[:40]), True)
            if len(edges) <= 40:
                self.same(cut_once(edges), edges)
                self.same(cleaned(edges), (edges, edges, 0))
            if len({p for edge in edges for p in edge}) > 60:
                continue
            plane = plane_of(list(edges))
            self.assertIs(is_plane(plane), True)
            for segment, chain in zip(segments, chains):
                self.assertEqual((chain[0], chain[-1]), segment)
                for a, b in zip(chain, chain[1:]):
                    self.assertIn(tuple(sorted((plane[0].index(a), plane[0].index(b)))), plane[1])

    def test_counts_of_a_plane(self):
        source = random.Random(6)
        for _ in range(30):
            plane = points, edges = some_plane(source, 9, 9)
            faces, parts, cycles = face_list(plane), part_list(plane), cycle_list(plane)
            self.assertEqual(len(points) - len(edges) + len(faces), 1 + len(parts))
            self.assertEqual(sum(cycle_sizes(plane)), 0)
            self.assertEqual(sum(size for _, _, size in faces), 0)
            self.assertEqual(sum(len(cycle) for cycle in cycles), 2 * len(edges))
            halves = [half for face in range(len(faces)) for half in border_of(plane, face)]
            self.assertEqual(sorted(halves), sorted(edges + tuple((j, i) for i, j in edges)))
            for face in range(len(faces)):
                way = way_between(plane, 0, face)
                for first, second in zip(way, way[1:]):
                    self.assertTrue(any(face_left(plane, half) == first and face_left(plane, half[::-1]) == second
                                        for half in border_of(plane, first)))

    def test_lines_stay_lines_of_the_plane(self):
        source = random.Random(7)
        for _ in range(20):
            lines = []
            for _ in range(4):
                row = [(source.randint(0, 12), source.randint(0, 12)) for _ in range(5)]
                lines.append(tuple(p for p, _ in itertools.groupby(row)))
            lines = tuple(line for line in lines if len(line) > 1)
            edges, rows = cleaned_lines(lines)
            for line, row in zip(lines, rows):
                self.assertEqual((row[0], row[-1]), (line[0], line[-1]))
                self.assertTrue(all(tuple(sorted(pair)) in edges for pair in zip(row, row[1:])))
            self.assertEqual({tuple(sorted(pair)) for row in rows for pair in zip(row, row[1:])}, set(edges))

    def test_parted_points(self):
        source = random.Random(8)
        for _ in range(20):
            plane = some_plane(source, 9, 8)
            free = [p for p in grid(-1, 9) if face_at(plane, p)[0] == "face"]
            for p, q in [(source.choice(free), source.choice(free)) for _ in range(20)]:
                self.assertIs(parting_cycle(plane, p, q) is None, face_at(plane, p) == face_at(plane, q))


class AreasTest(Case):

    def test_sizes(self):
        source = random.Random(9)
        seen = 0
        for _ in range(40):
            first, second = some_area(source, 8), some_area(source, 8)
            whole, both = union(first, second), common(first, second)
            one, two = difference(first, second), either(first, second)
            if not all(is_area(found) for found in (whole, both, one, two)):
                continue
            seen += 1
            self.same(plus(size_of(whole), size_of(both)), plus(size_of(first), size_of(second)))
            self.same(size_of(one), minus(size_of(first), size_of(both)))
            self.same(size_of(two), minus(size_of(whole), size_of(both)))
            self.assertIs(overlap(first, second), both != ())
            self.assertIs(contains(first, second), difference(second, first) == ())
            self.assertIs(is_same(first, second), normal(first) == normal(second))
            for found in (whole, both, one, two):
                self.same(normal(found), found)
        self.assertGreater(seen, 20)

    def test_faces_as_areas(self):
        source = random.Random(10)
        for _ in range(25):
            plane = some_plane(source, 7, 7)
            many = len(face_list(plane))
            if many < 3:
                continue
            first, second = [sorted(source.sample(range(1, many), source.randint(1, many - 1))) for _ in range(2)]
            areas = [area_of_faces(plane, chosen) for chosen in (first, second)]
            self.same(area_of_faces(plane, sorted(set(first) | set(second))), union(*areas))
            self.same(area_of_faces(plane, sorted(set(first) & set(second))), common(*areas))
            self.same(area_of_faces(plane, sorted(set(first) - set(second))), difference(*areas))
            self.same(faces_within(plane, areas[0]), first)
            self.same(size_of(areas[0]), (sum(face_list(plane)[face][2] for face in first), 1))
            for p in grid(0, 7)[::5]:
                where = face_at(plane, p)
                if where[0] == "face":
                    self.assertIs(side_in(areas[0], exact(p)) == "in", where[1] in first)

    def test_the_rest_of_a_box(self):
        source = random.Random(11)
        for _ in range(30):
            area, box = some_area(source, 8), (1, 0, 6, 7)
            rest = rest_of(box, area)
            whole = area_of((((1, 0), (6, 0), (6, 7), (1, 7)),))
            self.same(rest, difference(whole, area))
            self.same(plus(size_of(rest), size_of(common(whole, area))), (70, 1))


class SimplerTest(Case):

    def borders(self, source):
        """Two fields beside each other, with a winding border between them."""
        bends = [(20 + source.randint(-9, 9), y) for y in range(3, 38, source.choice((2, 3, 5)))]
        border = [(20, 0)] + bends + [(20, 40)]
        left = tuple([(0, 0)] + border + [(0, 40), (0, 0)])
        right = tuple([(40, 40)] + border[::-1] + [(40, 0), (40, 40)])
        return left, right

    def test_areas_keep_their_sides(self):
        """What was told to be in a field stays in it, and the common border stays common (points 68 to 72)."""
        source = random.Random(12)
        gone = 0
        for _ in range(25):
            lines = list(self.borders(source))
            areas = [area_of((line[:-1],)) for line in lines]
            free = [p for p in grid(1, 39)[::7] if all(side_in(area, exact(p)) != "on" for area in areas)]
            told = tuple(source.sample(free, 12))
            threshold = source.choice((5, 30, 200, 10000000))
            simpler = simplified_lines(lines, told, threshold)
            arcs, ways = arcs_of(lines)
            short, steps = simplified(arcs, told, threshold)
            self.same([joined(short, way) for way in ways], simpler)
            self.same(taken(arcs, told, threshold, steps), short)
            self.same(simplified(short, told, threshold), (short, []))
            gone += len(steps)
            for area, line in zip(areas, simpler):
                for p in told:
                    self.same(side_in(area_of((line[:-1],)), exact(p)), side_in(area, exact(p)))
            edges = [{tuple(sorted(pair)) for pair in zip(line, line[1:])} for line in simpler]
            self.assertTrue(edges[0] & edges[1])
            self.assertIs(overlap(*[area_of((line[:-1],)) for line in simpler]), False)
            for number, arc in enumerate(short):
                self.assertFalse(any(can_go(short, told, threshold, number, k) for k in range(len(arc))))
        self.assertGreater(gone, 50)

    def test_clean_lines_stay_clean(self):
        source = random.Random(13)
        gone = 0
        for _ in range(25):
            lines = [tuple((source.randint(low, low + 8), 4 * k) for k in range(8)) for low in (0, 7)]
            _, rows = cleaned_lines(tuple(lines))
            arcs, _ = arcs_of(rows)
            if len(arcs) > 12:
                continue
            short, steps = simplified(arcs, (), 10000000)
            gone += len(steps)
            segments = tuple(tuple(sorted(pair)) for arc in short for pair in zip(arc, arc[1:]))
            if len(segments) <= 40:
                self.assertIs(is_clean(segments), True)
        self.assertGreater(gone, 10)


class PicturesTest(Case):

    def test_tiles_and_pixels_are_of_one_picture(self):
        source = random.Random(14)
        for _ in range(15):
            things, style = some_map(source, 4)
            scale, column, row = source.randint(0, 2), source.randint(-1, 1), source.randint(-1, 1)
            sheets = [[tile_picture(things, style, (scale, column + k, row + 1 - n)) for k in range(2)]
                      for n in range(2)]
            window = (16 * column, 16 * row, 32, 32)
            whole = picture(things, style, scale, window)
            self.same(joined_sheets(sheets), whole)
            for sheet in sheets[0]:
                self.same(unpacked_sheet(packed_sheet(sheet)), sheet)
            for _ in range(30):
                px, py = source.randint(window[0], window[0] + 31), source.randint(window[1], window[1] + 31)
                colour = whole[window[1] + 31 - py][px - window[0]]
                self.same(colour_at(things, style, scale, px, py), colour)
                owner = owner_at(things, style, scale, px, py)
                self.assertIs(owner is None, colour == 0)
                for name, _, shape in things:
                    if name == owner:
                        self.assertIn((scale, px // 16, py // 16), reach((name, "a", shape), tuple(
                            ("", *rule[1:]) for rule in style), scale))

    def test_fill_covers_the_points_of_the_area(self):
        source = random.Random(15)
        for _ in range(30):
            rings = tuple(some_ring(source, 9) for _ in range(source.randint(1, 3)))
            for px, py in [(source.randint(-1, 9), source.randint(-1, 9)) for _ in range(20)]:
                side = side_in(area_of(rings), ((2 * px + 1, 2), (2 * py + 1, 2)))
                if side != "on":
                    self.assertIs(covers(("fill", 1), ("area", rings), 0, px, py), side == "in")

    def test_faces_are_filled_without_a_gap(self):
        """Each pixel is of at most one face, and of exactly one within what the plane encloses."""
        source = random.Random(16)
        seen = 0
        while seen < 8:
            plane = some_plane(source, 6, 8)
            fields = []
            for face in range(1, len(face_list(plane))):
                rings = [[(x[0], y[0]) for x, y in ring] for ring in area_of_faces(plane, [face])]
                try:
                    fields.append(("area", tuple(ring_of(tuple(ring)) for ring in rings)))
                except MapError:
                    fields.append(None)
            if None in fields or not fields:
                continue
            seen += 1
            whole = area_of_faces(plane, list(range(1, len(fields) + 1)))
            for px, py in grid(-8, 8)[::3]:
                many = sum(covers(("fill", 1), field, 0, px, py) for field in fields)
                self.assertLessEqual(many, 1)
                side = side_in(whole, ((2 * px + 1, 2), (2 * py + 1, 2)))
                if side != "on":
                    self.assertEqual(many, 1 if side == "in" else 0)

    def test_moved_by_whole_pixels(self):
        source = random.Random(17)
        for _ in range(10):
            things, style = some_map(source, 4)
            scale = source.randint(0, 2)
            moved = tuple((name, kind, each_point(shape, lambda p: (p[0] + 3 * 2 ** scale, p[1] - 5 * 2 ** scale)))
                          for name, kind, shape in things)
            self.same(picture(moved, style, scale, (3, -5, 20, 20)), picture(things, style, scale, (0, 0, 20, 20)))


class StoresAndJournalsTest(Case):

    def test_a_store_of_the_versions_of_a_journal(self):
        """Whatever hands send, the store shows the last version, and what it drops is what the change can touch."""
        source = random.Random(18)
        dropped = 0
        for _ in range(8):
            things, style = some_map(source, 3, 5)
            journal, store = Journal(things), Store(things, style)
            tiles = [(scale, column, row) for scale in (0, 1) for column in (-1, 0, 1) for row in (-1, 0, 1)]
            for _ in range(8):
                for tile in source.sample(tiles, 6):
                    self.same(store.picture_of(tile), tile_picture(journal.map_at(journal.last()), style, tile))
                last = journal.map_at(journal.last())
                names = [thing[0] for thing in last] * 2 + ["n1", "n2"]
                journal.send(("ann", journal.last(), some_changes(source, last, 2, names)))
                if source.random() < 0.3 and journal.last():
                    journal.revert("bob", journal.last())
                now = journal.map_at(journal.last())
                near = [tile for scale in (0, 1) for tile in touched_tiles(last, now, style, scale)]
                kept = store.kept()
                many = store.put(now)
                self.same(store.kept(), [tile for tile in kept if tile not in near])
                self.assertEqual(many, len(kept) - len(store.kept()))
                dropped += many
                for scale in (0, 1):
                    self.assertLessEqual(set(changed_tiles(last, now, style, scale)), set(near))
        self.assertGreater(dropped, 20)

    def test_texts_of_versions(self):
        source = random.Random(19)
        for _ in range(15):
            journal = Journal(some_things(source, 6))
            for _ in range(6):
                last = journal.map_at(journal.last())
                names = [thing[0] for thing in last] * 2 + ["n1", "n2"]
                changes = some_changes(source, last, source.choice((1, 3)), names)
                version = journal.send(("ann", journal.last(), changes))
                now = journal.map_at(version)
                self.assertIs(is_map(now), True)
                self.same(read_map(map_text(now)), now)
                self.same(made(read_map(map_text(last)), changes), now)
                self.same(made(now, opposite(last, changes)), last)
                self.assertIs(is_tree(now, tree_of(now)), True)

    def test_reverting_all_of_it(self):
        """Sets that share no names can be reverted in any order, and the first map comes back."""
        source = random.Random(20)
        for _ in range(10):
            first = some_things(source, 6)
            journal = Journal(first)
            for name, kind, shape in first:
                changes = source.choice([
                    (("remove", name),), (("rename", name, f"n{name}"), ("rekind", f"n{name}", "sea")),
                    (("reshape", name, some_shape(source, 9)), ("shift", name, 5, 7)),
                    (("add", (f"n{name}", kind, shape)), ("remove", name))])
                self.assertIsNotNone(journal.send(("ann", source.randint(0, journal.last()), changes)))
            versions = list(range(1, journal.last() + 1))
            source.shuffle(versions)
            for version in versions:
                self.assertIsNotNone(journal.revert("bob", version))
            self.same(journal.map_at(journal.last()), first)


class AskingTest(Case):

    def test_with_any_tree_and_without(self):
        source = random.Random(21)
        for _ in range(25):
            things = some_things(source, 30, 30)
            tree = tree_of(read_map(map_text(things)))
            for _ in range(6):
                x, y = source.randint(0, 30), source.randint(0, 30)
                box = (x, y, x + source.randint(0, 9), y + source.randint(0, 9))
                for word in ("in", "meets"):
                    names, looked = in_box_by(things, tree, box, word)
                    self.same(names, in_box(things, box, word))
                    self.assertGreaterEqual(looked, 1)
                self.same(in_box(things, box, "in"), [name for name, _, shape in things if lies_in(shape, box)])
                self.same(in_box(things, box, "meets"), [name for name, _, shape in things if meets_box(shape, box)])

    def test_boxes_and_shapes(self):
        source = random.Random(22)
        for _ in range(60):
            things = some_things(source, 8)
            x, y = source.randint(0, 8), source.randint(0, 8)
            box = (x, y, x + source.randint(1, 5), y + source.randint(1, 5))
            x0, y0, x1, y1 = box
            shape = ("area", (((x0, y0), (x1, y0), (x1, y1), (x0, y1)),))
            self.same(box_of(shape), box)
            self.same(meeting(things, shape), in_box(things, box, "meets"))
            self.same(meeting(things, ("point", (x, y))), at_point(things, (x, y)))
            near = nearest(things, (x, y), None, 60)
            self.same(sorted(name for name, square in near if square == (0, 1)), at_point(things, (x, y)))
            squares = [Fraction(*square) for _, square in near]
            self.assertEqual(squares, sorted(squares))
            shapes = {name: other for name, _, other in things}
            self.same(near, [(name, square_distance(shapes[name], (x, y))) for name, _ in near])

    def test_the_face_of_a_road(self):
        """A point of a line lies on an edge or at a point of the plane of the line."""
        source = random.Random(23)
        for _ in range(25):
            shape = some_shape(source, 8)
            if shape[0] != "line":
                continue
            edges, _ = cleaned_lines((shape[1],))
            plane = plane_of(list(edges))
            for p in grid(0, 8):
                on_line = any(lies_on(p, edge) for edge in edges)
                self.assertIs(face_at(plane, p)[0] != "face", on_line)


class LabelsTest(Case):

    def test_labels_of_the_things_of_a_map(self):
        """Labels around the points of a map: the best placement stands, and its evidence shows that none is better."""
        source = random.Random(24)
        for _ in range(15):
            things = tuple((f"t{k}", "k", ("point", (source.randint(0, 25), source.randint(0, 25)))) for k in range(4))
            labels = tuple((name, source.choice((1, 5, 9)), candidates_at(shape[1], 9, 3, 1)) for name, _,
                           shape in things)
            self.assertIs(is_labels(labels), True)
            placement, evidence = best(labels)
            self.assertIs(is_allowed(labels, placement), True)
            self.assertIs(accepts(labels, placement, evidence), True)
            self.assertGreaterEqual(weight_of(labels, placement), weight_of(labels, greedy(labels)))
            for x0, y0, x1, y1 in [label[2][k] for label, k in zip(labels, placement) if k is not None]:
                for other in [label[2][k] for label, k in zip(labels, placement) if k is not None]:
                    if other != (x0, y0, x1, y1):
                        u0, v0, u1, v1 = other
                        area, beside = [area_of((((a, b), (c, b), (c, d), (a, d)),))
                                        for a, b, c, d in ((x0, y0, x1, y1), (u0, v0, u1, v1))]
                        self.assertIs(overlap(area, beside), False)

    def test_boxes_overlap_as_their_areas(self):
        source = random.Random(25)
        for _ in range(60):
            boxes = []
            for _ in range(2):
                x, y = source.randint(0, 6), source.randint(0, 6)
                boxes.append((x, y, x + source.randint(1, 4), y + source.randint(1, 4)))
            areas = [area_of((((a, b), (c, b), (c, d), (a, d)),)) for a, b, c, d in boxes]
            labels = (("a", 1, boxes[:1]), ("b", 1, boxes[1:]))
            labels = tuple((name, weight, tuple(part)) for name, weight, part in labels)
            self.assertIs(excluding(labels) != [], overlap(*areas))
            self.assertEqual(len(groups_of_conflict(labels)), 1 if overlap(*areas) else 2)


class SameAgainTest(Case):

    def test_equal_calls_have_equal_results(self):
        source = random.Random(26)
        things, style = some_map(source, 4)
        labels = (("a", 1, ((0, 0, 4, 2), (4, 0, 8, 2))), ("b", 2, ((3, 0, 7, 2),)))
        segments = some_segments(source, 8, 9)
        for call, arguments in ((cleaned, (segments,)), (best, (labels,)), (tree_of, (things,)), (map_text, (things,)),
                                (picture, (things, style, 0, (0, 0, 9, 9))), (nearest, (things, (0, 0), None, 9))):
            before = repr(arguments)
            self.same(call(*arguments), call(*arguments))
            self.assertEqual(repr(arguments), before)

    def test_bounds(self):
        """What is too much is refused by the words of its chapter."""
        wide = ("wide", "k", ("area", (((-1000, -1000), (1000, -1000), (1000, 1000), (-1000, 1000)),)))
        rows = tuple(((0, 40 * k), (999, 40 * k + 1)) for k in range(20)) + tuple(
            ((50 * k, -999), (50 * k + 1, 999)) for k in range(20))
        journal = Journal(())
        for k in range(200):
            journal.send(("a", k, (("remove", "b"),) if k % 2 else (("add", ("b", "k", ("point", (0, 0)))),)))
        for what, call, arguments in (("edges", cleaned, (rows,)), ("edges", cut_once, (rows,)),
                                      ("tiles", touched_tiles, ((), (wide,), (("", 0, 6, 0, ("fill", 1)),), 0)),
                                      ("versions", journal.revert, ("a", 200))):
            with self.assertRaises(TooLarge) as caught:
                call(*arguments)
            self.assertEqual(caught.exception.what, what)


if __name__ == "__main__":
    unittest.main()
