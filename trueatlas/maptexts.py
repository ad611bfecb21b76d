"""Texts of maps: one line for each thing, written and read.

The words of a line are pairs of a column, counted from 1, and the word itself.
"""

from trueatlas.checks import DIGITS, is_between, is_name, need
from trueatlas.errors import TextError
from trueatlas.rings import LEAST_OF_RING, MOST_OF_RING
from trueatlas.shapes import MOST_THINGS, is_map, is_shape

MOST_OF_TEXT = 100000
# The number of words of a line before the numbers, and of those of a point.
BEFORE_NUMBERS = 3
WORDS_OF_POINT = 5
LEAST_POINTS = 2
# What stands for an integer with so many digits that it is neither a coordinate nor a count.
LONGEST_NUMBER = 5
TOO_FAR = 100000


def numbers_of(points):
    """The coordinates of a row of points, one after another."""
    return [number for p in points for number in p]


def line_of(thing):
    """The line of a thing, without its end."""
    name, kind, (word, what) = thing
    if word == "point":
        numbers = list(what)
    elif word == "line":
        numbers = numbers_of(what)
    else:
        numbers = [number for ring in what for number in [len(ring), *numbers_of(ring)]]
    return " ".join([word, name, kind, *[str(number) for number in numbers]])


def words_in(line):
    """The words of a line."""
    found = []
    column = 1
    for word in line.split(" "):
        if word != "":
            found.append((column, word))
        column += len(word) + 1
    return found


def is_number(word):
    """Whether a word is an integer as it is written."""
    digits = word.removeprefix("-")
    if digits == "" or not all(one in DIGITS for one in digits):
        return False
    return digits[0] != "0" or word == "0"


def word_at(row, words, place):
    """The word at this place, but not the first one, of the line with this number, and its column."""
    column, before = words[place - 1]
    end = column + len(before)
    if place >= len(words):
        raise TextError(row, end, "too few")
    if words[place][0] > end + 1:
        raise TextError(row, end + 1, "one space is expected")
    return words[place]


def name_at(row, words, place):
    """The name or the kind at this place of a line."""
    column, word = word_at(row, words, place)
    if not is_name(word):
        raise TextError(row, column, "a name is expected")
    return word


def number_at(row, words, place):
    """The number at this place of a line."""
    column, word = word_at(row, words, place)
    if not is_number(word):
        raise TextError(row, column, "a number is expected")
    return int(word) if len(word) <= LONGEST_NUMBER else TOO_FAR


def points_at(row, words, place, many):
    """As many points, read from this place of a line on."""
    found = []
    for k in range(many):
        x = number_at(row, words, place + 2 * k)
        y = number_at(row, words, place + 2 * k + 1)
        found.append((x, y))
    return tuple(found)


def point_in(row, words):
    """The point of a line of a point."""
    points = points_at(row, words, BEFORE_NUMBERS, 1)
    if len(words) > WORDS_OF_POINT:
        column, _ = word_at(row, words, WORDS_OF_POINT)
        raise TextError(row, column, "too many")
    return points[0]


def points_in(row, words):
    """The points of a line of a line."""
    # A coordinate without another one behind it counts as a point, too: then a word is missing.
    many = (len(words) - BEFORE_NUMBERS + 1) // 2
    return points_at(row, words, BEFORE_NUMBERS, max(LEAST_POINTS, many))


def rings_in(row, words):
    """The rings of a line of an area."""
    rings = []
    place = BEFORE_NUMBERS
    while not rings or place < len(words):
        many = number_at(row, words, place)
        if not is_between(many, LEAST_OF_RING, MOST_OF_RING):
            raise TextError(row, words[0][0], "no shape")
        rings.append(points_at(row, words, place + 1, many))
        place += 1 + 2 * many
    return tuple(rings)


def thing_in(row, words):
    """The thing of a line."""
    column, word = words[0]
    if column > 1 or word not in ("point", "line", "area"):
        raise TextError(row, 1, "a word is expected")
    name, kind = name_at(row, words, 1), name_at(row, words, 2)
    if word == "point":
        what = point_in(row, words)
    elif word == "line":
        what = points_in(row, words)
    else:
        what = rings_in(row, words)
    if not is_shape((word, what)):
        raise TextError(row, column, "no shape")
    return (name, kind, (word, what))


def map_text(map_things):
    """The text of the map."""
    need(is_map(map_things), "map_things")
    return "".join([line_of(thing) + "\n" for thing in map_things])


def read_map(text):
    """The map of the text."""
    need(isinstance(text, str) and len(text) <= MOST_OF_TEXT, "text")
    things = {}
    for index, line in enumerate(text.split("\n")):
        words = words_in(line)
        if not words:
            continue
        thing = thing_in(index + 1, words)
        if thing[0] in things:
            raise TextError(index + 1, words[1][0], "twice")
        if len(things) == MOST_THINGS:
            raise TextError(index + 1, words[0][0], "too many things")
        things[thing[0]] = thing
    return tuple([things[name] for name in sorted(things)])
