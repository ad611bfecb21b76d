"""Changes of a map, and the changes that lead back."""

from trueatlas.checks import is_between, is_name, need
from trueatlas.shapes import MOST_THINGS, box_around, is_map, is_shape, is_thing
from trueatlas.sides import is_coordinate

MOST_SHIFT = 2000
MOST_CHANGES = 20


def is_shift(value):
    """Whether the value is an integer by which a shape can be moved."""
    return is_between(value, -MOST_SHIFT, MOST_SHIFT)


def is_change(value):
    """Whether the value has the form of a change."""
    if not isinstance(value, tuple) or len(value) < 2:
        return False
    word = value[0]
    if word == "add":
        return len(value) == 2 and is_thing(value[1])
    if not is_name(value[1]):
        return False
    if word == "remove":
        return len(value) == 2
    if word == "shift":
        return len(value) == 4 and is_shift(value[2]) and is_shift(value[3])
    if word == "reshape":
        return len(value) == 3 and is_shape(value[2])
    return word in ("rekind", "rename") and len(value) == 3 and is_name(value[2])


def are_changes(value):
    """Whether the value is a tuple of at most 20 changes."""
    return isinstance(value, tuple) and len(value) <= MOST_CHANGES and all(is_change(change) for change in value)


def names_of(change):
    """The names that a change touches."""
    if change[0] == "add":
        return [change[1][0]]
    if change[0] == "rename":
        return [change[1], change[2]]
    return [change[1]]


def names_touched(changes):
    """The names that some changes touch, each once, in ascending order."""
    return sorted({name for change in changes for name in names_of(change)})


def moved_points(points, dx, dy):
    """A row of points, each moved."""
    return tuple([(x + dx, y + dy) for x, y in points])


def moved_shape(shape, dx, dy):
    """A shape, all points of which are moved."""
    word, what = shape
    if word == "point":
        return (word, (what[0] + dx, what[1] + dy))
    if word == "line":
        return (word, moved_points(what, dx, dy))
    return (word, tuple([moved_points(ring, dx, dy) for ring in what]))


def stays_on_map(shape, dx, dy):
    """Whether a shape has only points of the map after it is moved."""
    x0, y0, x1, y1 = box_around(shape)
    return all([is_coordinate(number) for number in (x0 + dx, y0 + dy, x1 + dx, y1 + dy)])


def by_name(map_things):
    """The things of a map by their names."""
    return {thing[0]: thing for thing in map_things}


def map_of(things):
    """The map of some things by their names."""
    return tuple([things[name] for name in sorted(things)])


def can_be_made(things, change):
    """Whether a change can be made on some things by their names."""
    word, name = change[0], names_of(change)[0]
    if word == "add":
        return name not in things and len(things) < MOST_THINGS
    if name not in things:
        return False
    if word == "shift":
        return stays_on_map(things[name][2], change[2], change[3])
    return word != "rename" or change[2] not in things


def thing_after(things, change):
    """The thing that comes of a change that can be made on some things, or None if none does."""
    word = change[0]
    if word == "add":
        return change[1]
    if word == "remove":
        return None
    name, kind, shape = things[change[1]]
    if word == "shift":
        return (name, kind, moved_shape(shape, change[2], change[3]))
    if word == "reshape":
        return (name, kind, change[2])
    if word == "rekind":
        return (name, change[2], shape)
    return (change[2], kind, shape)


def things_after(things, change):
    """The things by their names after a change that can be made on them."""
    names = names_of(change)
    left = {name: things[name] for name in things if name not in names}
    thing = thing_after(things, change)
    if thing is not None:
        left[thing[0]] = thing
    return left


def opposite_of(things, change):
    """The change that leads back to some things from those after a change."""
    word = change[0]
    if word == "add":
        return ("remove", change[1][0])
    if word == "rename":
        return ("rename", change[2], change[1])
    name, kind, shape = things[change[1]]
    if word == "remove":
        return ("add", (name, kind, shape))
    if word == "shift":
        return ("shift", name, -change[2], -change[3])
    return (word, name, shape if word == "reshape" else kind)


def map_and_opposite(map_things, changes):
    """The map after some changes, and the changes that lead back from it; None if they cannot be made."""
    things = by_name(map_things)
    back = []
    for change in changes:
        if not can_be_made(things, change):
            return None
        back.append(opposite_of(things, change))
        things = things_after(things, change)
    return (map_of(things), tuple(back[::-1]))


def need_changes(map_things, changes):
    """Refuse the first of these arguments that is wrong."""
    need(is_map(map_things), "map_things")
    need(are_changes(changes) and map_and_opposite(map_things, changes) is not None, "changes")


def made(map_things, changes):
    """The map after the changes."""
    need_changes(map_things, changes)
    return map_and_opposite(map_things, changes)[0]


def opposite(map_things, changes):
    """The changes that lead from the map after the changes back to the map."""
    need_changes(map_things, changes)
    return map_and_opposite(map_things, changes)[1]


def touched(changes):
    """The names that the changes touch, each once, in ascending order."""
    need(are_changes(changes), "changes")
    return names_touched(changes)
