"""The errors that the program raises."""


class RowError(ValueError):
    """The base class of all errors of the program."""


class BadValue(RowError):
    """An argument has a wrong form."""

    def __init__(self, name):
        self.name = name


class TooLarge(RowError):
    """Something is more than there may be."""

    def __init__(self, what):
        self.what = what


class NotPossible(RowError):
    """What is asked for is not possible as things stand."""

    def __init__(self, why):
        self.why = why


class TextError(RowError):
    """A text has a problem at a column."""

    def __init__(self, column, words):
        self.column = column
        self.words = words
