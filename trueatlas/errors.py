"""The errors that the program raises."""


class MapError(ValueError):
    """The base class of all errors of the program."""


class BadValue(MapError):
    """An argument has a wrong form."""

    def __init__(self, name):
        self.name = name


class BadMap(MapError):
    """A map is wrong at some place."""

    def __init__(self, where, why):
        self.where = where
        self.why = why


class TooLarge(MapError):
    """A bound is exceeded."""

    def __init__(self, what):
        self.what = what


class TextError(MapError):
    """A text has a problem at a line and a column."""

    def __init__(self, line, column, words):
        self.line = line
        self.column = column
        self.words = words
