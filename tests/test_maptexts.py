"""Points 130 to 132: the text of a map, and reading it."""

import random
import re
import unittest

from tests.test_asking import some_things
from tests.test_rings import COMB
from tests.test_shapes import BEND, CROSSED, FIELD, HOLED, NO_MAPS, SIXTY, SPOT
from tests.test_sides import LONG
from tests.tools import Case, ODD_VALUES, shuffled
from trueatlas.errors import BadValue, TextError
from trueatlas.maptexts import map_text, read_map
from trueatlas.shapes import is_shape

WELL = ("well", "spring", ("point", (3, 4)))
WORD, NAME, NUMBER = "a word is expected", "a name is expected", "a number is expected"
SPACE, FEW, MANY = "one space is expected", "too few", "too many"
SHAPE, TWICE, THINGS = "no shape", "twice", "too many things"
SQUARE = "4 0 0 4 0 4 4 0 4"
# A ring of 40 points.
ROUND = tuple((k, 0) for k in range(39)) + ((5, 9),)


def spots(many):
    """The text of as many points."""
    return "".join(f"point p{k:02d} k {k} 0\n" for k in range(many))


def numbers(points):
    return " ".join(f"{x} {y}" for x, y in points)


def problems_of(line):
    """The problems of a line, pairs of a column and words, by the words of point 131; its thing if there are none."""
    words = [(match.start() + 1, match.group()) for match in re.finditer("[^ ]+", line)]
    end = words[-1][0] + len(words[-1][1])
    found = [(match.start() + 2, SPACE) for match in re.finditer("(?<=[^ ])  +(?=[^ ])", line)]
    if line[0] == " " or words[0][1] not in ("point", "line", "area"):
        return [(1, WORD)], None
    found += [(column, NAME) for column, word in words[1:3] if not re.fullmatch("[a-z][a-z0-9]{0,11}", word)]
    rest, stop = words[3:], end + 1
    values = []
    head = words[0][1]
    for column, word in rest[:2] if head == "point" else rest:
        right = re.fullmatch("0|-?[1-9][0-9]*", word)
        if not right:
            found.append((column, NUMBER))
        values.append((column, (int(word) if len(word) < 9 else 10 ** 9) if right else 0))
    if head == "point":
        missing, shape = len(rest) < 2, ("point", tuple(value for _, value in values[:2]))
        found += [(column, MANY) for column, _ in rest[2:3]]
    elif head == "line":
        missing = len(rest) < 4 or len(rest) % 2 == 1
        shape = ("line", tuple(zip([value for _, value in values[::2]], [value for _, value in values[1::2]])))
    else:
        rings, place, missing = [], 0, not values
        while place < len(values):
            column, count = values[place]
            if not 3 <= count <= 40:
                stop = column if re.fullmatch("0|-?[1-9][0-9]*", rest[place][1]) else stop
                break
            ring = [value for _, value in values[place + 1:place + 1 + 2 * count]]
            missing = len(ring) < 2 * count
            rings.append(tuple(zip(ring[::2], ring[1::2])))
            place += 1 + 2 * count
        shape = ("area", tuple(rings))
    if missing or len(words) < 3:
        found.append((end, FEW))
    found = sorted(problem for problem in found if problem[0] < stop)
    if found or stop <= end or not is_shape(shape):
        return found or [(1, SHAPE)], None
    return [], (words[1][1], words[2][1], shape)


def read_by_python(text):
    """The map of a text, or its first problem."""
    things = {}
    for number, line in enumerate(text.split("\n"), 1):
        if line.strip(" ") == "":
            continue
        found, thing = problems_of(line)
        if found:
            return (number, *found[0])
        if thing[0] in things:
            return (number, 2 + len(line.split(" ")[0]), TWICE)
        if len(things) == 60:
            return (number, 1, THINGS)
        things[thing[0]] = thing
    return tuple(things[name] for name in sorted(things))


class TextCase(Case):

    def fails(self, text, line, column, words):
        """Reading the text raises this error."""
        with self.assertRaises(TextError, msg=repr(text)[:300]) as caught:
            read_map(text)
        error = caught.exception
        self.same((error.line, error.column, error.words), (line, column, words))

    def line_fails(self, line, column, words):
        """The line has this problem, alone and among other lines."""
        self.fails(line, 1, column, words)
        self.fails(line + "\n", 1, column, words)
        self.fails(f"\npoint zz k 0 0 \n  \n{line}\npoint\n", 4, column, words)
        self.same(read_by_python(line), (1, column, words))

    def reads(self, text, things):
        self.same(read_map(text), things)
        self.same(read_by_python(text), things)


class MapTextTest(TextCase):

    def test_examples(self):
        self.same(map_text((("oak", "tree", ("point", (0, 0))), WELL)), "point oak tree 0 0\npoint well spring 3 4\n")
        self.same(read_map("line road way 0 0 5 5\n"), (("road", "way", ("line", ((0, 0), (5, 5)))),))
        self.fails("point a b 1 02\n", 1, 13, NUMBER)

    def test_each_shape(self):
        self.same(map_text(()), "")
        self.same(map_text((("a", "b", ("point", (-1000, 1000))),)), "point a b -1000 1000\n")
        self.same(map_text((("a", "b", ("line", ((0, -7), (10, 0), (0, -7)))),)), "line a b 0 -7 10 0 0 -7\n")
        self.same(map_text((("a", "b", FIELD),)), f"area a b {SQUARE}\n")
        self.same(map_text((("a", "b", HOLED),)), f"area a b 4 -2 -2 9 -2 9 9 -2 9 {SQUARE}\n")
        self.same(map_text((("a" * 12, "b9", ("area", (((0, 0), (1, 0), (0, 1)),))),)),
                  "area aaaaaaaaaaaa b9 3 0 0 1 0 0 1\n")

    def test_written_and_read(self):
        source = random.Random(130)
        for _ in range(60):
            things = some_things(source, source.randint(0, 12), source.choice((3, 9, 900)))
            text = map_text(things)
            self.reads(text, things)
            self.reads(text.removesuffix("\n"), things)
            lines = shuffled(text.split("\n"), 1)
            loose = "\n".join(["", "   "] + [line + " " * source.choice((0, 1, 5)) for line in lines] + [" ", ""])
            self.reads(loose, things)
            self.same(map_text(read_map(loose)), text)

    def test_written_and_read_at_the_bounds(self):
        for things in (SIXTY[:60], (("a", "k", ("area", (ROUND, COMB))),), (("a", "k", ("line", LONG[:40])),),
                       (("a", "k", ("area", (FIELD[1][0],) * 6)),),
                       (("a", "k", CROSSED), ("b", "k", BEND), ("c", "k", SPOT))):
            self.reads(map_text(things), things)

    def test_refused(self):
        self.refuses(map_text, ("map_things", (WELL,), NO_MAPS))


class ReadMapTest(TextCase):

    def test_empty(self):
        for text in ("", "\n", "\n\n\n", " ", "   \n  ", "\n    \n"):
            self.reads(text, ())

    def test_spaces_and_lines(self):
        for text in ("point well spring 3 4", "point well spring 3 4\n", "point well spring 3 4   \n",
                     "point well spring 3 4 ", "\n\npoint well spring 3 4\n\n\n", "  \npoint well spring 3 4\n   "):
            self.reads(text, (WELL,))

    def test_any_order(self):
        self.reads("point b k 1 1\npoint a1 k 2 2\npoint a k 3 3\npoint a10 k 0 0\n",
                   (("a", "k", ("point", (3, 3))), ("a1", "k", ("point", (2, 2))), ("a10", "k", ("point", (0, 0))),
                    ("b", "k", ("point", (1, 1)))))

    def test_numbers(self):
        for word, value in (("0", 0), ("7", 7), ("-7", -7), ("10", 10), ("-1000", -1000), ("1000", 1000)):
            self.reads(f"point a b {word} 0", (("a", "b", ("point", (value, 0))),))
            self.reads(f"point a b 0 {word}", (("a", "b", ("point", (0, value))),))

    def test_a_word_is_expected(self):
        for word in ("Point", "points", "ring", "poin", "0", "point\t", "\tpoint", "\t", "\r", "-", "point,", "\u00a0",
                     "\u2028"):
            self.line_fails(f"{word} a b 1 2", 1, WORD)
            self.line_fails(word, 1, WORD)
        for line in (" point a b 1 2", "  point a b 1 2", " x", "   area", " \t"):
            self.line_fails(line, 1, WORD)
        self.line_fails("Point  A", 1, WORD)

    def test_a_name_is_expected(self):
        for word in ("A", "aB", "1a", "-", "0", "a_b", "a" * 13, "\u00e4", "a\u00b2", "a\u0661", "\t", "b\r", "a\ta",
                     "point,"):
            for head in ("point", "line", "area"):
                self.line_fails(f"{head} {word} b 1 2", len(head) + 2, NAME)
                self.line_fails(f"{head} {word}", len(head) + 2, NAME)
                self.line_fails(f"{head} a0 {word} 1 2", len(head) + 5, NAME)
                self.line_fails(f"{head} a0 {word}", len(head) + 5, NAME)
        self.line_fails("point A B x y", 7, NAME)
        self.reads("point aaaaaaaaaaaa z9 0 0", (("a" * 12, "z9", ("point", (0, 0))),))
        self.reads("point point line 0 0", (("point", "line", ("point", (0, 0))),))

    def test_a_number_is_expected(self):
        for word in ("-0", "00", "01", "-01", "+1", "1.0", "1e3", "-", "--1", "1-", "a", "1,", "\t1", "1\t", "0x1",
                     "1_0", "\u0661",
                     "\u00b2", "\uff11", "1\r", "\r", "(", "None", "0" * 5000, "-" + "0" * 5000, "1" * 5000 + "a"):
            self.line_fails(f"point a b {word} 2", 11, NUMBER)
            self.line_fails(f"point a b 1 {word}", 13, NUMBER)
            self.line_fails(f"point a b {word}", 11, NUMBER)
            self.line_fails(f"line a b 0 0 {word} 5", 14, NUMBER)
            self.line_fails(f"line a b 0 0 5 5 {word}", 18, NUMBER)
            self.line_fails(f"area a b {word} 0 0 1 0 0 1", 10, NUMBER)
            self.line_fails(f"area a b 3 0 0 1 0 {word} 1", 20, NUMBER)
            self.line_fails(f"area a b 3 0 0 1 0 0 1 {word}", 24, NUMBER)

    def test_one_space_is_expected(self):
        for line, column in (("point  a b 1 2", 7), ("point a  b 1 2", 9), ("point a b  1 2", 11),
                             ("point a b 1  2", 13),
                             ("point a b 1    2", 13), ("line a b 0 0 5  5", 16), ("area a b  3 0 0 1 0 0 1", 10),
                             ("area a b 3 0 0 1 0 0  1", 22), ("point  a", 7), ("point  a  b", 7),
                             ("point a b 1 2  3", 15),
                             ("point a b 1 2   x", 15)):
            self.line_fails(line, column, SPACE)
        self.line_fails("point  A b 1 2", 7, SPACE)
        self.line_fails("point A  b 1 2", 7, NAME)
        self.line_fails("point a b x  2", 11, NUMBER)
        self.line_fails("point a b 5000  2", 16, SPACE)

    def test_too_few(self):
        for line in ("point", "line", "area", "point a", "line a", "area a", "point a b", "line a b", "area a b",
                     "point a b 1",
                     "line a b 0", "line a b 0 0", "line a b 0 0 5", "line a b 0 0 5 5 9", "area a b 3", "area a b 3 0",
                     "area a b 3 0 0 1 0 0", f"area a b {SQUARE} 3", f"area a b {SQUARE} 3 0 0 1 0 0",
                     "area a b 40 1 2"):
            self.line_fails(line, len(line) + 1, FEW)
            self.line_fails(line + "   ", len(line) + 1, FEW)
        # A line of too many points, or of points that give no shape, is read until its last word.
        for line in (f"line a b {numbers(LONG)} 7", "line a b 5000 0 0", "line a b 0 0 0 0 1", "point a b 5000",
                     f"area a b {' '.join([SQUARE] * 7)} 3", "area a b 3 0 0 0 0 0 5000"[:-5]):
            self.line_fails(line.rstrip(), len(line.rstrip()) + 1, FEW)

    def test_too_many(self):
        for line, column in (("point a b 1 2 3", 15), ("point a b 1 2 3 4", 15), ("point a b 1 2 x", 15),
                             ("point a b 5000 2 x", 18),
                             ("point a b 1 2 \r", 15), ("point a b 1 2 \t ", 15)):
            self.line_fails(line, column, MANY)

    def test_no_shape(self):
        for line in ("point a b 1001 0", "point a b 0 -1001", "point a b 0 " + "9" * 5000,
                     "point a b -" + "9" * 5000 + " 0",
                     "point a b 10000 0", "point a b 0 -99999", "line a b 0 0 0 0", "line a b 0 0 1 0 1 0",
                     "line a b 0 0 1001 0",
                     "line a b 0 0 5 " + "1" * 4301, f"line a b {numbers(LONG)}", "area a b 3 0 0 1 0 2 0",
                     "area a b 3 0 0 0 1 1 0",
                     "area a b 3 1 0 0 1 0 0", "area a b 3 0 0 1 0 0 1001", "area a b 4 0 0 4 0 0 4 4 4",
                     f"area a b {' '.join([SQUARE] * 7)}", f"area a b {SQUARE} 3 0 0 1 0 2 0"):
            self.line_fails(line, 1, SHAPE)
            self.line_fails(line + "  ", 1, SHAPE)

    def test_counts(self):
        for count in ("2", "1", "0", "-1", "-3", "41", "1001", "9" * 5000, "-" + "9" * 5000):
            # Behind such a count a line has no further problem.
            for rest in ("", " 0 0 1 0 0 1", " x", "  0", " 0 0 1", "   ", " \t"):
                self.line_fails(f"area a b {count}{rest}", 1, SHAPE)
                self.line_fails(f"area a b {SQUARE} {count}{rest}", 1, SHAPE)
            self.line_fails(f"area a  b {count}", 8, SPACE)
            self.line_fails(f"area a b  {count}", 10, SPACE)
            self.line_fails(f"area a B {count}", 8, NAME)
            self.line_fails(f"area a b 3 0 0 x 0 0 1 {count}", 16, NUMBER)
            self.line_fails(f"area a b 3 0 0 1 0 0 5000 {count} x", 1, SHAPE)
        self.reads("area a b 3 0 0 1 0 0 1", (("a", "b", ("area", (((0, 0), (1, 0), (0, 1)),))),))
        self.reads(f"area a b 40 {numbers(ROUND)}", (("a", "b", ("area", (ROUND,))),))

    def test_numbers_of_points_and_rings(self):
        for many in (2, 3, 40):
            self.reads(f"line a b {numbers(LONG[:many])}", (("a", "b", ("line", LONG[:many])),))
        self.line_fails(f"line a b {numbers(LONG[:41])}", 1, SHAPE)
        self.line_fails(f"line a b {numbers(LONG[:41])} x", len(f"line a b {numbers(LONG[:41])} x"), NUMBER)
        self.line_fails(f"line a b {numbers(LONG[:1])}", len(f"line a b {numbers(LONG[:1])}") + 1, FEW)
        for many in (1, 6):
            text = f"area a b {' '.join([SQUARE] * many)}"
            self.reads(text, (("a", "b", ("area", (FIELD[1][0],) * many)),))
        text = f"area a b {' '.join([SQUARE] * 7)}"
        self.line_fails(text, 1, SHAPE)
        self.line_fails(text + " x", len(text) + 2, NUMBER)
        self.line_fails(text + " 3", len(text) + 3, FEW)

    def test_twice(self):
        self.fails("point a b 1 2\npoint a b 1 2\n", 2, 7, TWICE)
        self.fails("point a b 1 2\n\nline a c 0 0 5 5\n", 3, 6, TWICE)
        self.fails(f"point a b 1 2\npoint c b 1 2\narea c b {SQUARE}", 3, 6, TWICE)
        self.fails("point a b 1 2\npoint a b 5000 2\n", 2, 1, SHAPE)
        self.fails("point a b 1 2\npoint a b 1\n", 2, 12, FEW)
        self.fails("point a b 1 2\npoint a b 1 2 3\n", 2, 15, MANY)
        self.reads("point a b 1 2\npoint b a 1 2\n", (("a", "b", ("point", (1, 2))), ("b", "a", ("point", (1, 2)))))

    def test_sixty_things(self):
        self.assertEqual(len(read_map(spots(60))), 60)
        self.fails(spots(61), 61, 1, THINGS)
        self.fails(spots(60) + "\n  \npoint z k 0 0", 63, 1, THINGS)
        self.fails(spots(60) + "point p07 k 0 0", 61, 7, TWICE)
        self.fails(spots(60) + "point z k 0", 61, 12, FEW)
        self.fails(spots(60) + "point z k 0 5000", 61, 1, SHAPE)
        self.fails(spots(60) + " point z k 0 0", 61, 1, WORD)
        self.fails(spots(61) + "x", 61, 1, THINGS)

    def test_the_first_of_several(self):
        self.fails("point a b 1 2\npoint c  d 1 2\nPoint\n", 2, 9, SPACE)
        self.fails("point a b 5000 2\npoint A b 1 2\n", 1, 1, SHAPE)
        self.fails("\n\n x\npoint\n", 3, 1, WORD)
        self.fails("point a b 1 2\npoint a b 1 2\nx", 2, 7, TWICE)

    def test_other_line_ends(self):
        self.fails("point a b 1 2\r\npoint c d 1 2\r\n", 1, 13, NUMBER)
        self.fails("point a b 1 2\rpoint c d 1 2", 1, 13, NUMBER)
        for end in ("\x0b", "\x0c", "\x1c", "\x85", "\u2028", "\u2029"):
            self.fails(f"point a b 1 2{end}point c d 1 2", 1, 13, NUMBER)
            self.fails(f"{end}\npoint a b 1 2", 1, 1, WORD)

    def test_other_white_space(self):
        for white in ("\t", "\u00a0", "\u3000", "\x0b"):
            self.line_fails(f"point{white}a b 1 2", 1, WORD)
            self.line_fails(f"point a{white}b 1 2", 7, NAME)
            self.line_fails(f"point a b 1{white}2", 11, NUMBER)
            self.line_fails(f"point a b 1 2{white}", 13, NUMBER)

    def test_as_another_reader(self):
        source = random.Random(131)
        pieces = ["point", "line", "area", "a", "b", "c9", "A", "0", "1", "-3", "7", "5000", "3", "4", "2", "01", "x",
                  "  ", "\n",
                  "0 0 4 0 0 4", "1 1", "\n", "point a b", "area c d 3", "9" * 4400]
        seen = {}
        for _ in range(4000):
            text = " ".join(source.choice(pieces) for _ in range(source.randint(1, 12)))
            text = text.replace("\n ", "\n").replace(" \n", "\n")
            self.check(text, seen)
        for _ in range(1500):
            things = some_things(source, 4)
            text = map_text(things) + map_text(things[:1]) * source.choice((0, 0, 1))
            for _ in range(source.choice((1, 1, 2))):
                place = source.randint(0, len(text))
                text = text[:place] + source.choice((" ", "0", "-", "1", "\n", "a", "9999", "", "")) + text[
                    place + source.choice((0, 1, 1, 3)):]
            self.check(text, seen)
        for words in (WORD, NAME, NUMBER, SPACE, FEW, MANY, SHAPE, TWICE, None):
            self.assertGreater(seen.get(words, 0), 10, words)

    def check(self, text, seen):
        """The text reads as the other reader reads it."""
        wanted = read_by_python(text)
        try:
            found = read_map(text)
            seen[None] = seen.get(None, 0) + 1
        except TextError as error:
            found = (error.line, error.column, error.words)
            seen[error.words] = seen.get(error.words, 0) + 1
        self.assertEqual(repr(found), repr(wanted), repr(text))

    def test_long_texts(self):
        line = "point a b 1 2"
        for text in (" " * 100000, "\n" * 100000, line + " " * (100000 - len(line))):
            self.assertEqual(len(text), 100000)
            read_map(text)
            self.bad("text", read_map, text + "\n")
            self.bad("text", read_map, text + " ")
        self.fails("x" * 100000, 1, 1, WORD)
        self.fails(("point " + "1" * 100000)[:100000], 1, 7, NAME)
        self.fails("point a b " + "1" * 99990, 1, 100001, FEW)
        self.fails("\n" * 99995 + "point", 99996, 6, FEW)
        self.bad("text", read_map, "x" * 100001)

    def test_refused(self):
        for value in ODD_VALUES + [b"point a b 1 2\n", ["point a b 1 2"], ("point a b 1 2\n",), 7]:
            if not isinstance(value, str):
                with self.assertRaises(BadValue) as caught:
                    read_map(value)
                self.assertEqual(caught.exception.name, "text")


if __name__ == "__main__":
    unittest.main()
