"""Trees of a map: nodes with boxes, so that asking needs to look at a few things only."""

from trueatlas.asking import does_answer, is_word
from trueatlas.checks import is_name, need
from trueatlas.shapes import box_around, is_box, is_map

MOST_OF_LEAF = 4


def boxes_by_name(map_things):
    """The box of the shape of each thing, by its name."""
    return {name: box_around(shape) for name, kind, shape in map_things}


def box_of_boxes(boxes):
    """The least box that contains some boxes."""
    return (min([box[0] for box in boxes]), min([box[1] for box in boxes]),
            max([box[2] for box in boxes]), max([box[3] for box in boxes]))


def tree_over(rows):
    """The told tree of some things, for pairs of a name and a box in ascending order."""
    around = box_of_boxes([box for name, box in rows])
    if len(rows) <= MOST_OF_LEAF:
        return (around, tuple([name for name, box in rows]), ())
    x0, y0, x1, y1 = around
    low, high = (0, 2) if x1 - x0 >= y1 - y0 else (1, 3)
    found = sorted([(box[low] + box[high], name, box) for name, box in rows])
    half = (len(found) + 1) // 2
    nodes = [sorted([(name, box) for _, name, box in part]) for part in (found[:half], found[half:])]
    return (around, (), (tree_over(nodes[0]), tree_over(nodes[1])))


def is_node(value):
    """Whether the value is a node by itself: a box, and 1 to 4 names or two nodes, whatever these are."""
    if not isinstance(value, tuple) or len(value) != 3 or not is_box(value[0]):
        return False
    _, names, nodes = value
    if not isinstance(names, tuple) or not isinstance(nodes, tuple) or not all(is_name(name) for name in names):
        return False
    if not nodes:
        return 1 <= len(names) <= MOST_OF_LEAF
    return len(nodes) == 2 and not names


def nodes_of(tree, most):
    """The nodes of a tree, each before its own nodes, or None if the value is no tree of at most as many nodes."""
    found = []
    front = [tree]
    while front:
        node = front.pop()
        if len(found) == most or not is_node(node):
            return None
        found.append(node)
        front.extend(node[2][::-1])
    return found


def has_right_box(node, box_by_name):
    """Whether the box of a node is the least one around its names or its nodes."""
    box, names, nodes = node
    boxes = [box_by_name[name] for name in names] + [below[0] for below in nodes]
    return box == box_of_boxes(boxes)


def is_tree_of(map_things, tree):
    """Whether the value is a tree of a map that has been checked."""
    if not map_things:
        return tree is None
    # Each leaf has a name of its own, and with two nodes in each other node there is one of these less than leaves.
    nodes = nodes_of(tree, 2 * len(map_things) - 1)
    if nodes is None:
        return False
    box_by_name = boxes_by_name(map_things)
    if sorted([name for _, names, _ in nodes for name in names]) != list(box_by_name):
        return False
    return all(has_right_box(node, box_by_name) for node in nodes)


def have_common_point(first, second):
    """Whether two boxes have a common point."""
    if first[2] < second[0] or second[2] < first[0]:
        return False
    return first[1] <= second[3] and second[1] <= first[3]


def tree_of(map_things):
    """The told tree of the things of the map, or None if there are none."""
    need(is_map(map_things), "map_things")
    return tree_over(list(boxes_by_name(map_things).items())) if map_things else None


def is_tree(map_things, tree):
    """Whether the value is a tree of the map, whoever made it."""
    need(is_map(map_things), "map_things")
    return is_tree_of(map_things, tree)


def in_box_by(map_things, tree, box, word):
    """The names that the box is answered with, in ascending order, and how many nodes of the tree were looked at."""
    need(is_map(map_things), "map_things")
    need(is_tree_of(map_things, tree), "tree")
    need(is_box(box), "box")
    need(is_word(word), "word")
    shape_by_name = {name: shape for name, kind, shape in map_things}
    found = []
    looked = 0
    front = [] if tree is None else [tree]
    while front:
        around, names, nodes = front.pop()
        looked += 1
        if have_common_point(around, box):
            found.extend([name for name in names if does_answer(shape_by_name[name], box, word)])
            front.extend(nodes[::-1])
    return (sorted(found), looked)
