"""The errors of the program."""


class RoundError(ValueError):
    """The base class of all errors of the program."""


class BadValue(RoundError):
    """The argument with this name has a wrong form."""

    def __init__(self, name):
        self.name = name


class BadProgram(RoundError):
    """A program has a problem at a place."""

    def __init__(self, where, why):
        self.where = where
        self.why = why


class NotTold(RoundError):
    """A map does not belong to the told class."""

    def __init__(self, reason):
        self.reason = reason


class TooLarge(RoundError):
    """A result is larger than the document allows."""

    def __init__(self, what):
        self.what = what


class TextError(RoundError):
    """A text has a problem at a line and a column, both from 1."""

    def __init__(self, line, column, words):
        self.line = line
        self.column = column
        self.words = words
