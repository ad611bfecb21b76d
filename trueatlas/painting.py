"""Pictures: which pixels a look covers, and which colours they get.

Everything is counted in half units, so that the centres of pixels are whole: at a scale with pixels of S units, the
pixel px has its centre at S * (2 * px + 1). A span (low, high) stands for the pixels of a row from low to high; if high
is less than low, for none.
"""

from math import isqrt

from trueatlas.checks import is_between, need
from trueatlas.shapes import box_around, edges_of, is_map, is_shape
from trueatlas.styles import fits, is_look, is_scale, is_style, margin_of, marks_of

LEAST_PIXEL = -2048
MOST_PIXEL = 2047
MOST_OF_WINDOW = 48

NO_SPAN = (0, -1)


def is_pixel(value):
    """Whether the value is an integer that a pixel can have."""
    return is_between(value, LEAST_PIXEL, MOST_PIXEL)


def is_window(value):
    """Whether the value is a window."""
    if not isinstance(value, tuple) or len(value) != 4 or not is_pixel(value[0]) or not is_pixel(value[1]):
        return False
    px, py, width, height = value
    if not is_between(width, 1, MOST_OF_WINDOW) or not is_between(height, 1, MOST_OF_WINDOW):
        return False
    return is_pixel(px + width - 1) and is_pixel(py + height - 1)


def doubled_edges(shape):
    """The edges of a shape in half units; a point is an edge from itself to itself."""
    edges = [(shape[1], shape[1])] if shape[0] == "point" else edges_of(shape)
    return [((2 * a[0], 2 * a[1]), (2 * b[0], 2 * b[1])) for a, b in edges]


def narrowed(span, factor, more, low, high):
    """The part of a span of numbers n in which factor * n + more is from low to high."""
    if factor < 0:
        factor, more, low, high = -factor, -more, -high, -low
    if factor == 0:
        return span if low <= more <= high else NO_SPAN
    return (max(span[0], -((more - low) // factor)), min(span[1], (high - more) // factor))


def span_of_disc(centre, radius, side, span, height):
    """The pixels of a row whose centres are at most as far from a point as the radius."""
    rest = radius * radius - (height - centre[1]) * (height - centre[1])
    if rest < 0:
        return NO_SPAN
    reach = isqrt(rest)
    return narrowed(span, 2 * side, side - centre[0], -reach, reach)


def span_of_band(edge, radius, side, span, height):
    """The pixels of a row whose feet on the line of an edge lie on the edge, at most as far away as the radius."""
    (x, y), (u, v) = edge
    wide, high = u - x, v - y
    square = wide * wide + high * high
    along = (side - x) * wide + (height - y) * high
    span = narrowed(span, 2 * side * wide, along, 0, square)
    # The turn of the edge and a centre is the distance times the length of the edge, and an integer.
    most = isqrt(radius * radius * square)
    turn = wide * (height - y) - high * (side - x)
    return narrowed(span, -2 * side * high, turn, -most, most)


def spans_of_stroke(edges, radius, side, span, height):
    """The pixels of a row whose centres are at most as far from one of the edges as the radius."""
    found = []
    for a, b in edges:
        if min(a[1], b[1]) - radius <= height <= max(a[1], b[1]) + radius:
            found.append(span_of_disc(a, radius, side, span, height))
            found.append(span_of_disc(b, radius, side, span, height))
            found.append(span_of_band((a, b), radius, side, span, height))
    return found


def spans_of_fill(edges, side, span, height):
    """For each edge at the height of a row, the pixels whose centres are west of it."""
    found = []
    for a, b in edges:
        low, high = (a, b) if a[1] < b[1] else (b, a)
        if low[1] <= height < high[1]:
            tall = high[1] - low[1]
            # The edge has this multiple of its x here; a centre west of it has a lesser one.
            whole = low[0] * tall + (height - low[1]) * (high[0] - low[0])
            found.append((span[0], min(span[1], (whole - 1 - side * tall) // (2 * side * tall))))
    return found


def spans_in_row(look, edges, side, span, py):
    """Spans of a row of pixels: those in an odd number of them are filled, those in one of them stroked or dotted."""
    # The centre of a row lies as that of a pixel.
    height = side * (2 * py + 1)
    if look[0] == "fill":
        return spans_of_fill(edges, side, span, height)
    if look[0] == "stroke":
        return spans_of_stroke(edges, side * look[2], side, span, height)
    centre, _ = edges[0]
    return [span_of_disc(centre, 2 * side * look[2], side, span, height)]


def covered_in_row(look, edges, side, span, py):
    """The pixels of a span of a row that the look covers."""
    first, last = span
    times = [0] * (last - first + 1)
    for low, high in spans_in_row(look, edges, side, span, py):
        for px in range(low, high + 1):
            times[px - first] += 1
    if look[0] == "fill":
        times = [many & 1 for many in times]
    return [first + k for k, many in enumerate(times) if many > 0]


def rows_near(look, shape, scale, window):
    """Those rows of a window that a look can reach; none, if it lies beside the window."""
    px, py, width, height = window
    side = 1 << scale
    margin = margin_of(look, scale)
    x0, y0, x1, y1 = box_around(shape)
    if (x0 - margin) // side >= px + width or (x1 + margin) // side < px:
        return []
    low, high = (y0 - margin) // side, (y1 + margin) // side
    return list(range(max(py, low), min(py + height - 1, high) + 1))


def top_marks(map_things, style, scale, window):
    """For each pixel of the rows of a window, from the lowest row up, the highest mark that covers it, or None."""
    px, py, width, height = window
    shape_of = {name: shape for name, kind, shape in map_things}
    rows = [[None] * width for _ in range(height)]
    for mark in marks_of(map_things, style, scale):
        look, shape = style[mark[1]][4], shape_of[mark[2]]
        edges = doubled_edges(shape)
        for row in rows_near(look, shape, scale, window):
            for k in covered_in_row(look, edges, 1 << scale, (px, px + width - 1), row):
                rows[row - py][k - px] = mark
    return rows


def colour_of(style, mark):
    """The colour of the look of a mark; without a mark it is 0."""
    return 0 if mark is None else style[mark[1]][4][1]


def picture_of(map_things, style, scale, window):
    """The picture, for arguments that have been checked."""
    rows = top_marks(map_things, style, scale, window)
    return tuple([tuple([colour_of(style, mark) for mark in row]) for row in rows[::-1]])


def need_style_at(map_things, style, scale):
    """Refuse the first of these arguments that is wrong."""
    need(is_map(map_things), "map_things")
    need(is_style(style), "style")
    need(is_scale(scale), "scale")


def need_pixel(px, py):
    """Refuse the first of these arguments that is wrong."""
    need(is_pixel(px), "px")
    need(is_pixel(py), "py")


def covers(look, shape, scale, px, py):
    """Whether the look covers the pixel for a thing with this shape."""
    need(is_look(look), "look")
    need(is_shape(shape) and fits(look, shape), "shape")
    need(is_scale(scale), "scale")
    need_pixel(px, py)
    return covered_in_row(look, doubled_edges(shape), 1 << scale, (px, px), py) == [px]


def colour_at(map_things, style, scale, px, py):
    """The colour of the pixel."""
    need_style_at(map_things, style, scale)
    need_pixel(px, py)
    return picture_of(map_things, style, scale, (px, py, 1, 1))[0][0]


def owner_at(map_things, style, scale, px, py):
    """The name of the thing that owns the pixel, or None."""
    need_style_at(map_things, style, scale)
    need_pixel(px, py)
    mark = top_marks(map_things, style, scale, (px, py, 1, 1))[0][0]
    return None if mark is None else mark[2]


def picture(map_things, style, scale, window):
    """The picture of the map through the window: rows of colours, from the highest one down."""
    need_style_at(map_things, style, scale)
    need(is_window(window), "window")
    return picture_of(map_things, style, scale, window)
