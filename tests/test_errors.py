"""Points 7 and 8: the errors and their classes."""

import copy
import unittest

from tests.tools import Case
from trueatlas.errors import BadMap, BadValue, MapError, TextError, TooLarge


class ErrorsTest(Case):

    def test_one_base(self):
        self.assertTrue(issubclass(MapError, ValueError))
        for error in (BadValue, BadMap, TooLarge, TextError):
            self.assertTrue(issubclass(error, MapError))

    def test_none_below_another(self):
        errors = (BadValue, BadMap, TooLarge, TextError)
        for first in errors:
            for second in errors:
                self.assertEqual(issubclass(first, second), first is second)

    def test_attributes(self):
        self.same(vars(BadValue("n")), {"name": "n"})
        self.same(vars(BadMap((1, 2), "because")), {"where": (1, 2), "why": "because"})
        self.same(vars(TooLarge("edges")), {"what": "edges"})
        self.same(vars(TextError(3, 14, "too few")), {"line": 3, "column": 14, "words": "too few"})

    def test_attributes_by_keyword(self):
        self.same(BadValue(name="d").name, "d")
        self.same(BadMap(where=(), why="so").where, ())
        self.same(TooLarge(what="tiles").what, "tiles")
        self.same(TextError(line=1, column=2, words="twice").words, "twice")

    def test_own_methods(self):
        for error in (BadValue, BadMap, TooLarge, TextError):
            self.assertIn("__init__", vars(error))
            self.assertEqual(error.__module__, "trueatlas.errors")

    def test_raised_and_caught(self):
        for error in (BadValue("x"), BadMap((0,), "x"), TooLarge("x"), TextError(1, 1, "x")):
            with self.assertRaises(MapError):
                raise error
            self.same(vars(copy.copy(error)), vars(error))


if __name__ == "__main__":
    unittest.main()
