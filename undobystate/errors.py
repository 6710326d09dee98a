"""The errors that the program raises."""


class UndoError(ValueError):
    """The base class of all errors of the program."""


class BadValue(UndoError):
    """The argument called name has a wrong form."""

    def __init__(self, name):
        self.name = name


class TooLarge(UndoError):
    """There is more of something than a bound allows."""

    def __init__(self, what):
        self.what = what


class NotPossible(UndoError):
    """The arguments are well formed, but what was asked cannot be done."""

    def __init__(self, why):
        self.why = why


class TextError(UndoError):
    """A text has a problem at a column, counted from 1."""

    def __init__(self, column, words):
        self.column = column
        self.words = words
