"""Styles: which looks apply to which things, and which of them are above."""

from trueatlas.checks import is_between, is_name, need
from trueatlas.shapes import is_map, is_thing

HIGHEST_SCALE = 6
MOST_COLOUR = 63
MOST_WIDTH = 16
MOST_RULES = 12
MOST_ORDER = 8
# The words of the shapes that a look fits.
FITS = {"fill": ("area",), "stroke": ("line", "area"), "dot": ("point",)}


def is_scale(value):
    """Whether the value is a scale."""
    return is_between(value, 0, HIGHEST_SCALE)


def is_look(value):
    """Whether the value is a look."""
    if not isinstance(value, tuple) or len(value) < 2 or not is_between(value[1], 1, MOST_COLOUR):
        return False
    if not isinstance(value[0], str) or value[0] not in FITS:
        return False
    if value[0] == "fill":
        return len(value) == 2
    return len(value) == 3 and is_between(value[2], 1, MOST_WIDTH)


def is_rule(value):
    """Whether the value is a rule."""
    if not isinstance(value, tuple) or len(value) != 5:
        return False
    kind, least, most, order, look = value
    if not is_name(kind) and kind != "":
        return False
    if not is_scale(least) or not is_scale(most) or least > most:
        return False
    return is_between(order, -MOST_ORDER, MOST_ORDER) and is_look(look)


def is_style(value):
    """Whether the value is a style."""
    return isinstance(value, tuple) and len(value) <= MOST_RULES and all(is_rule(rule) for rule in value)


def fits(look, shape):
    """Whether a look fits a shape, both of which have been checked."""
    return shape[0] in FITS[look[0]]


def margin_of(look, scale):
    """How far a look can reach beyond the box of its shape, in units."""
    if look[0] == "fill":
        return 0
    return (1 << scale) * look[2]


def does_apply(rule, thing, scale):
    """Whether a rule applies to a thing at a scale."""
    kind, least, most, _, look = rule
    return kind in ("", thing[1]) and least <= scale <= most and fits(look, thing[2])


def rules_for(style, thing, scale):
    """The indexes of the rules that apply, for arguments that have been checked."""
    return [index for index, rule in enumerate(style) if does_apply(rule, thing, scale)]


def marks_of(map_things, style, scale):
    """The marks in ascending order, for arguments that have been checked."""
    found = []
    for thing in map_things:
        found.extend([(style[index][3], index, thing[0]) for index in rules_for(style, thing, scale)])
    return sorted(found)


def applying(style, thing, scale):
    """The indexes of the rules that apply to the thing at the scale."""
    need(is_style(style), "style")
    need(is_thing(thing), "thing")
    need(is_scale(scale), "scale")
    return rules_for(style, thing, scale)


def marks(map_things, style, scale):
    """The marks, tuples of an order, an index of a rule and a name, in ascending order."""
    need(is_map(map_things), "map_things")
    need(is_style(style), "style")
    need(is_scale(scale), "scale")
    return marks_of(map_things, style, scale)
