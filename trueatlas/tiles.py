"""Tiles: squares of 16 times 16 pixels that join without a seam, and which of them a change can touch."""

from trueatlas.checks import is_between, is_pair, need
from trueatlas.errors import TooLarge
from trueatlas.painting import picture_of
from trueatlas.shapes import box_around, is_map, is_thing
from trueatlas.styles import MOST_COLOUR, is_scale, is_style, margin_of, rules_for

SIDE = 16
LEAST_TILE = -128
MOST_TILE = 127
MOST_TOUCHED = 64
MOST_SHEETS = 4


def is_tile(value):
    """Whether the value is a tile: a tuple of its scale, its column and its row."""
    if not isinstance(value, tuple) or len(value) != 3 or not is_scale(value[0]):
        return False
    return all(is_between(number, LEAST_TILE, MOST_TILE) for number in value[1:])


def is_row(value):
    """Whether the value is a row of a sheet."""
    return isinstance(value, tuple) and len(value) == SIDE and all(is_between(one, 0, MOST_COLOUR) for one in value)


def is_sheet(value):
    """Whether the value is a sheet: 16 rows of 16 colours."""
    return isinstance(value, tuple) and len(value) == SIDE and all(is_row(row) for row in value)


def are_beside(value):
    """Whether the value is a list of 1 to 4 sheets."""
    return isinstance(value, list) and 1 <= len(value) <= MOST_SHEETS and all(is_sheet(sheet) for sheet in value)


def are_sheets(value):
    """Whether the value is a list of 1 to 4 lists of 1 to 4 sheets, all equally many."""
    if not isinstance(value, list) or not 1 <= len(value) <= MOST_SHEETS:
        return False
    return all(are_beside(row) and len(row) == len(value[0]) for row in value)


def is_run(value):
    """Whether the value is a pair of a count and a colour."""
    return is_pair(value) and is_between(value[0], 1, SIDE * SIDE) and is_between(value[1], 0, MOST_COLOUR)


def is_packed(value):
    """Whether the value is a packed sheet."""
    if not isinstance(value, tuple) or not all(is_run(run) for run in value):
        return False
    if sum(count for count, colour in value) != SIDE * SIDE:
        return False
    return all(first[1] != second[1] for first, second in zip(value, value[1:]))


def rows_beside(sheets):
    """The rows of some sheets that stand side by side."""
    found = []
    for rows in zip(*sheets):
        found.append(tuple([colour for row in rows for colour in row]))
    return found


def most_of(colours):
    """The colour that most of these have; of several, the one that comes first."""
    return max(colours, key=lambda colour: colours.count(colour))


def picture_of_tile(map_things, style, tile):
    """The picture of a tile, for arguments that have been checked."""
    scale, column, row = tile
    return picture_of(map_things, style, scale, (SIDE * column, SIDE * row, SIDE, SIDE))


def reach_of(thing, style, scale):
    """The first column, the last one, the first row and the last one of the reach, or None if it has no tile."""
    looks = [style[index][4] for index in rules_for(style, thing, scale)]
    if not looks:
        return None
    margin = max([margin_of(look, scale) for look in looks])
    wide = SIDE * (1 << scale)
    x0, y0, x1, y1 = box_around(thing[2])
    return (max((x0 - margin) // wide, LEAST_TILE), min((x1 + margin) // wide, MOST_TILE),
            max((y0 - margin) // wide, LEAST_TILE), min((y1 + margin) // wide, MOST_TILE))


def tiles_in(scale, bounds):
    """The tiles between such bounds, in ascending order."""
    left, right, low, high = bounds
    return [(scale, column, row) for column in range(left, right + 1) for row in range(low, high + 1)]


def changed_things(old, new):
    """The things of one of two maps that the other one has not, or has otherwise."""
    return [thing for thing in old if thing not in new] + [thing for thing in new if thing not in old]


def bounds_touched(old, new, style, scale):
    """The bounds of the reaches of the changed things, as they are in either of the two maps."""
    found = [reach_of(thing, style, scale) for thing in changed_things(old, new)]
    return [bounds for bounds in found if bounds is not None]


def tiles_touched(old, new, style, scale):
    """The tiles that the change can touch, for arguments that have been checked."""
    found = {}
    for bounds in bounds_touched(old, new, style, scale):
        for tile in tiles_in(scale, bounds):
            found[tile] = True
        if len(found) > MOST_TOUCHED:
            raise TooLarge("tiles")
    return sorted(list(found))


def need_change(old, new, style, scale):
    """Refuse the first of these arguments that is wrong."""
    need(is_map(old), "old")
    need(is_map(new), "new")
    need(is_style(style), "style")
    need(is_scale(scale), "scale")


def tile_picture(map_things, style, tile):
    """The picture of the tile, a sheet."""
    need(is_map(map_things), "map_things")
    need(is_style(style), "style")
    need(is_tile(tile), "tile")
    return picture_of_tile(map_things, style, tile)


def joined(sheets):
    """The joined picture of rows of sheets, from the highest row down, a tuple of rows."""
    need(are_sheets(sheets), "sheets")
    return tuple([row for beside in sheets for row in rows_beside(beside)])


def packed_sheet(sheet):
    """The runs of the pixels of a sheet, pairs of a count and a colour."""
    need(is_sheet(sheet), "sheet")
    runs = []
    for colour in [one for row in sheet for one in row]:
        if runs and runs[-1][1] == colour:
            runs[-1] = (runs[-1][0] + 1, colour)
        else:
            runs.append((1, colour))
    return tuple(runs)


def unpacked_sheet(packed):
    """The sheet of the runs."""
    need(is_packed(packed), "packed")
    colours = [colour for count, colour in packed for _ in range(count)]
    return tuple([tuple(colours[k:k + SIDE]) for k in range(0, len(colours), SIDE)])


def reduced(first, second, third, fourth):
    """The sheet of half the size of four: above left, above right, below left and below right."""
    need(is_sheet(first), "first")
    need(is_sheet(second), "second")
    need(is_sheet(third), "third")
    need(is_sheet(fourth), "fourth")
    rows = rows_beside([first, second]) + rows_beside([third, fourth])
    found = []
    for above, below in zip(rows[::2], rows[1::2]):
        columns = (above[::2], above[1::2], below[::2], below[1::2])
        found.append(tuple([most_of(block) for block in zip(*columns)]))
    return tuple(found)


def reach(thing, style, scale):
    """The tiles that the marks of the thing could cover, in ascending order."""
    need(is_thing(thing), "thing")
    need(is_style(style), "style")
    need(is_scale(scale), "scale")
    bounds = reach_of(thing, style, scale)
    return [] if bounds is None else tiles_in(scale, bounds)


def touched_tiles(old, new, style, scale):
    """The tiles that the change can touch, in ascending order."""
    need_change(old, new, style, scale)
    return tiles_touched(old, new, style, scale)


def changed_tiles(old, new, style, scale):
    """The tiles that have another picture after the change, in ascending order."""
    need_change(old, new, style, scale)
    found = []
    for tile in tiles_touched(old, new, style, scale):
        if picture_of_tile(old, style, tile) != picture_of_tile(new, style, tile):
            found.append(tile)
    return found
