"""Points 118 to 122: trees of a map, and asking with them."""

import random
import unittest

from tests.test_asking import NO_WORDS, some_things
from tests.test_shapes import FIELD, NO_BOXES, NO_MAPS, SIXTY, SPOT, corners, some_boxes
from tests.tools import Case, ODD_VALUES, shuffled
from trueatlas.asking import in_box
from trueatlas.trees import in_box_by, is_tree, tree_of

SQUARE = ("square", "field", ("area", (((0, 0), (4, 0), (4, 4), (0, 4)),)))
ROAD = ("road", "way", ("line", ((6, 0), (6, 8))))
THINGS = (ROAD, SQUARE)
TREE = ((0, 0, 6, 8), ("road", "square"), ())


def dots(*places):
    """A map of points at these places, named in their order."""
    return tuple((f"p{k:02d}", "k", ("point", place)) for k, place in enumerate(places))


FIVE = dots((0, 0), (1, 5), (2, 1), (3, 9), (9, 2))
FIVE_TREE = ((0, 0, 9, 9), (), (((0, 0, 2, 5), ("p00", "p01", "p02"), ()), ((3, 2, 9, 9), ("p03", "p04"), ())))


def box_by_python(shape):
    xs, ys = [x for x, _ in corners(shape)], [y for _, y in corners(shape)]
    return (min(xs), min(ys), max(xs), max(ys))


def around(boxes):
    return (min(box[0] for box in boxes), min(box[1] for box in boxes),
            max(box[2] for box in boxes), max(box[3] for box in boxes))


def told(things):
    """The told tree, by the words of point 119."""
    if not things:
        return None
    boxes = {name: box_by_python(shape) for name, _, shape in things}
    x0, y0, x1, y1 = whole = around(list(boxes.values()))
    if len(things) <= 4:
        return (whole, tuple(sorted(boxes)), ())
    side = 0 if x1 - x0 >= y1 - y0 else 1
    names = sorted(boxes, key=lambda name: (boxes[name][side] + boxes[name][side + 2], name))
    half = -(-len(names) // 2)
    return (whole, (), tuple(told([thing for thing in things if thing[0] in part])
                             for part in (names[:half], names[half:])))


def some_tree(source, things, most=4):
    """A tree of the things that nobody told, with leaves of one to four names in any order."""
    rows = [(name, box_by_python(shape)) for name, _, shape in things]
    nodes = []
    source.shuffle(rows)
    while rows:
        many = source.randint(1, most)
        part, rows = rows[:many], rows[many:]
        nodes.append((around([box for _, box in part]), tuple(name for name, _ in part), ()))
    while len(nodes) > 1:
        first, second = [nodes.pop(source.randrange(len(nodes))) for _ in range(2)]
        nodes.append((around([first[0], second[0]]), (), (first, second)))
    return nodes[0] if nodes else None


def chain(things):
    """A tree as deep as can be."""
    nodes = [(box_by_python(shape), (name,), ()) for name, _, shape in things]
    while len(nodes) > 1:
        second, first = nodes.pop(), nodes.pop()
        nodes.append((around([first[0], second[0]]), (), (first, second)))
    return nodes[0]


def looked_at(node, box):
    """How many nodes are looked at, by the words of point 120."""
    if node is None:
        return 0
    apart = node[0][0] > box[2] or box[0] > node[0][2] or node[0][1] > box[3] or box[1] > node[0][3]
    return 1 if apart else 1 + sum(looked_at(below, box) for below in node[2])


def all_nodes(node):
    return [node] + [other for below in node[2] for other in all_nodes(below)]


def replaced(node, old, new):
    """The tree with another one in place of one of its nodes."""
    return new if node == old else (node[0], node[1], tuple(replaced(below, old, new) for below in node[2]))


class TreeOfTest(Case):

    def test_example(self):
        self.same(tree_of(THINGS), TREE)

    def test_few(self):
        self.same(tree_of(()), None)
        self.same(tree_of((ROAD,)), ((6, 0, 6, 8), ("road",), ()))
        self.same(tree_of(FIVE[:4]), ((0, 0, 3, 9), ("p00", "p01", "p02", "p03"), ()))
        self.same(tree_of(FIVE), FIVE_TREE)

    def test_as_wide_as_high(self):
        things = dots((0, 9), (1, 8), (2, 7), (3, 6), (9, 0))
        self.same(tree_of(things)[2][0][1], ("p00", "p01", "p02"))
        higher = dots((0, 10), (1, 8), (2, 7), (3, 6), (9, 0))
        self.same([node[1] for node in tree_of(higher)[2]], [("p02", "p03", "p04"), ("p00", "p01")])

    def test_equal_sums(self):
        things = dots((5, 0), (5, 1), (5, 2), (5, 3), (0, 4), (9, 5), (5, 6))
        self.same([node[1] for node in tree_of(things)[2]], [("p00", "p01", "p02", "p04"), ("p03", "p05", "p06")])
        same = tuple((f"p{k}", "k", FIELD) for k in range(9))
        self.same([node[1] for node in all_nodes(tree_of(same))],
                  [(), (), ("p0", "p1", "p2"), ("p3", "p4"), ("p5", "p6", "p7", "p8")])

    def test_sums_of_boxes(self):
        # By the sums of the sides of their boxes, not by one of their sides.
        rows = ((0, 20), (1, 3), (2, 5), (3, 6), (9, 10))
        things = tuple((f"l{k}", "k", ("line", ((low, k), (high, k)))) for k, (low, high) in enumerate(rows))
        self.same([node[1] for node in tree_of(things)[2]], [("l1", "l2", "l3"), ("l0", "l4")])

    def test_odd_numbers(self):
        for many in (5, 7, 9, 11, 59, 60):
            tree = tree_of(SIXTY[:many])
            first, second = [sum(len(node[1]) for node in all_nodes(below)) for below in tree[2]]
            self.assertEqual((first, second), (many - many // 2, many // 2))

    def test_as_the_document_tells(self):
        source = random.Random(119)
        for many in [0, 1, 4, 5, 6, 9, 60] + [source.randint(0, 60) for _ in range(60)]:
            things = some_things(source, many, source.choice((2, 9, 30)))
            self.same(tree_of(things), told(things))
            self.assertIs(is_tree(things, tree_of(things)), True)

    def test_refused(self):
        self.refuses(tree_of, ("map_things", THINGS, NO_MAPS))


class IsTreeTest(Case):

    def no(self, tree, things=FIVE):
        self.assertIs(is_tree(things, tree), False, tree)

    def test_others_of_the_map(self):
        source = random.Random(120)
        for many in (1, 2, 4, 5, 9, 60):
            for _ in range(10):
                things = some_things(source, many)
                for most in (1, 2, 4):
                    self.assertIs(is_tree(things, some_tree(source, things, most)), True)
        self.assertIs(is_tree(SIXTY[:60], chain(SIXTY[:60])), True)
        self.assertIs(is_tree(THINGS, ((0, 0, 6, 8), ("square", "road"), ())), True)

    def test_none(self):
        self.assertIs(is_tree((), None), True)
        self.no(None)
        self.no(None, THINGS)
        for value in (TREE, (), ((0, 0, 0, 0), (), ()), False, 0, ((0, 0, 6, 8), (), (None, None))):
            self.no(value, ())

    def test_wrong_boxes(self):
        for node in all_nodes(FIVE_TREE):
            for k in range(4):
                for step in (-1, 1):
                    box = node[0][:k] + (node[0][k] + step,) + node[0][k + 1:]
                    self.no(replaced(FIVE_TREE, node, (box, *node[1:])))
        for box in NO_BOXES:
            self.no((box, *FIVE_TREE[1:]))
            self.no((box, ("road", "square"), ()), THINGS)

    def test_numbers_that_are_true(self):
        things = dots((0, 0), (1, 1))
        self.assertIs(is_tree(things, ((0, 0, 1, 1), ("p00", "p01"), ())), True)
        for box in ((False, 0, 1, 1), (0, 0, True, 1), (0, 0, 1, True), (0, 0, 1.0, 1)):
            self.no((box, ("p00", "p01"), ()), things)

    def test_names(self):
        root = FIVE_TREE[0]
        first, second = FIVE_TREE[2]
        # The boxes stay right in most of these, as the other names of a leaf are at its corners.
        same = tuple((name, "k", SPOT) for name, _, _ in FIVE)
        box = (2, 3, 2, 3)
        def tree(names, others):
            return (box, (), ((box, names, ()), (box, others, ())))
        self.assertIs(is_tree(same, tree(("p03", "p01"), ("p00", "p04", "p02"))), True)
        for names, others in ((("p00", "p01"), ("p02", "p03")), (("p00", "p01"), ("p02", "p03", "p03")),
                              (("p00", "p01"), ("p01", "p02", "p03", "p04")),
                              (("p00", "p00"), ("p01", "p02", "p03", "p04")),
                              (("p00", "p01"), ("p02", "p03", "p05")), (("p00", "p01"), ("p02", "p03", "p04", "z")),
                              (("p00", "p01"), ("p02", "p03", None)), (("p00", "p01"), ("p02", "p03", ("p04",))),
                              (("p00", "p01"), ("p02", "p03", ["p04"])), (("p00", "p01"), ("p02", "p03", 4)),
                              (["p00", "p01"], ("p02", "p03", "p04")), (("p00", "p01"), "p02p03p04"), ((), ("p00",)),
                              (("p00", "p01", "p02", "p03", "p04"), ()), (("p00", "p01", "p02", "p03"), ()),
                              (("p00", "p01", "p02", "p03", "p04"), ("p00",)), (("p00",), None), (("p00",), 0)):
            self.no(tree(names, others), same)
        self.no((box, ("p00", "p01", "p02", "p03", "p04"), ()), same)
        self.no((root, (), (first, first)))
        self.no((root, (), (second, second)))

    def test_nodes(self):
        root = FIVE_TREE[0]
        first, second = FIVE_TREE[2]
        self.assertIs(is_tree(FIVE, (root, (), (second, first))), True)
        for tree in ((root, (), (first,)), (root, (), (FIVE_TREE,)), (root, (), (first, second, second)),
                     (root, (), ()),
                     (root, ("p00",), (first, second)), (root, (), [first, second]), [root, (), (first, second)],
                     (root, [], (first, second)), (root, (), (list(first), second)), (list(root), (), (first, second)),
                     (root, (), (first, None)), (root, (), (first, ())), (root, None, (first, second)),
                     (root, (), None),
                     (root, (), first), (root, ()), (root, (), (first, second), ()),
                     (root, (), (first, (root, (), ()))),
                     (root, (), ((first[0], first[1], None), second)), (root, (), ((first[0], first[1], []), second)),
                     (root, (), (first, (second[0], (), (second,)))), (root, (), "ab"), (root, "", (first, second))):
            self.no(tree)
        # The names and the boxes are right, but names stand beside nodes, or a leaf has none.
        self.no((root, ("p00",), ((around([(1, 5, 1, 5), (2, 1, 2, 1)]), ("p01", "p02"), ()), second)))
        for empty in ((0, 0, 0, 0), root):
            self.no((root, (), (FIVE_TREE, (empty, (), ()))))
            self.no((root, (), ((empty, (), ()), FIVE_TREE)))
        self.no((TREE[0], (), (TREE,)), THINGS)
        self.no((TREE[0], TREE[1], (TREE, TREE)), THINGS)

    def test_of_another_map(self):
        self.no(FIVE_TREE, THINGS)
        self.no(TREE, FIVE)
        self.no(FIVE_TREE, FIVE[:4])
        self.no(FIVE_TREE, FIVE[:4] + (("p04", "k", ("point", (9, 3))),))
        self.no(tree_of(SIXTY[:60]), SIXTY[1:])

    def test_any_value(self):
        for value in ODD_VALUES + [(TREE,), (TREE, TREE), "tree", ((), (), ()), (((), (), ()), (), ()), {0: TREE}]:
            if value is not None:
                self.no(value, ())
            self.no(value)
            self.no(value, THINGS)

    def test_deep_and_large(self):
        deep = TREE
        for _ in range(50000):
            deep = (TREE[0], (), (TREE, deep))
        self.no(deep, THINGS)
        self.no((TREE[0], (), (deep, TREE)), THINGS)
        same = TREE
        for _ in range(60):
            same = (TREE[0], (), (same, same))
        self.no(same, THINGS)
        self.no((deep, (), ()), THINGS)

    def test_refused(self):
        self.refuses(is_tree, ("map_things", THINGS, NO_MAPS[::2]), ("tree", TREE, []))


class InBoxByTest(Case):

    def test_example(self):
        self.same(in_box_by(THINGS, tree_of(THINGS), (7, 0, 9, 9), "meets"), ([], 1))

    def test_some(self):
        for box, word, names, looked in (((0, 0, 9, 9), "in", ["p00", "p01", "p02", "p03", "p04"], 3),
                                         ((0, 0, 1, 9), "meets", ["p00", "p01"], 3), ((10, 0, 11, 9), "meets", [], 1),
                                         ((4, 0, 4, 1), "in", [], 3), ((9, 9, 20, 20), "meets", [], 3),
                                         ((-5, -5, 0, 0), "meets", ["p00"], 3)):
            self.same(in_box_by(FIVE, FIVE_TREE, box, word), (names, looked))

    def test_boxes_that_touch_in_one_point(self):
        things = dots((0, 0), (2, 2), (4, 4), (6, 6), (8, 8), (10, 10), (12, 12), (14, 14), (16, 16))
        tree = tree_of(things)
        self.assertEqual(len(all_nodes(tree)), 5)
        for box, names, looked in (((16, 16, 20, 20), ["p08"], 3), ((17, 16, 20, 20), [], 1),
                                   ((-4, -4, 0, 0), ["p00"], 5),
                                   ((8, 8, 9, 9), ["p04"], 5), ((9, 9, 9, 9), [], 3), ((16, 0, 20, 9), [], 3),
                                   ((0, 16, 0, 16), [], 3)):
            self.same(in_box_by(things, tree, box, "meets"), (names, looked))
            self.same(in_box_by(things, tree, box, "in"), (names, looked))

    def test_no_things(self):
        self.same(in_box_by((), None, (0, 0, 9, 9), "in"), ([], 0))
        self.same(in_box_by((), None, (0, 0, 9, 9), "meets"), ([], 0))

    def test_whatever_tree_is_used(self):
        source = random.Random(121)
        fewer = 0
        for box in some_boxes(121, 150):
            things = some_things(source, source.choice((1, 4, 5, 9, 30)), source.choice((9, 30)))
            for tree in (tree_of(things), some_tree(source, things), chain(things)):
                for word in ("in", "meets"):
                    names, looked = in_box_by(things, tree, box, word)
                    self.same(names, in_box(things, box, word))
                    self.same(looked, looked_at(tree, box))
                    fewer += looked < len(all_nodes(tree))
        self.assertGreater(fewer, 50)

    def test_in_ascending_order(self):
        names = [name for name, _, _ in SIXTY[:60]]
        for seed in range(5):
            tree = some_tree(random.Random(seed), shuffled(SIXTY[:60], seed))
            self.same(in_box_by(SIXTY[:60], tree, (0, 0, 60, 60), "in"), (names, len(all_nodes(tree))))

    def test_a_list_that_the_caller_changes(self):
        in_box_by(THINGS, TREE, (0, 0, 9, 9), "in")[0].clear()
        self.same(in_box_by(THINGS, TREE, (0, 0, 9, 9), "in"), (["road", "square"], 1))

    def test_refused(self):
        trees = [None, FIVE_TREE, list(TREE), (TREE,), ((0, 0, 6, 9), *TREE[1:]), (TREE[0], ("road",), ()), ODD_VALUES]
        for word in ("in", "meets"):
            self.refuses(in_box_by, ("map_things", THINGS, NO_MAPS[::3]), ("tree", TREE, trees + ODD_VALUES),
                         ("box", (0, 0, 4, 4), NO_BOXES), ("word", word, NO_WORDS))
        self.bad("tree", in_box_by, (), TREE, (0, 0, 4, 4), "in")
        self.bad("box", in_box_by, (), None, (0, 0, 4), "in")
        self.bad("word", in_box_by, (), None, (0, 0, 4, 4), "on")


if __name__ == "__main__":
    unittest.main()
