"""The errors that the program raises.

Python itself keeps the arguments of an error as its message.
"""


class WaysError(ValueError):
    """The base class of all errors of the program."""


class BadValue(WaysError):
    """The argument with this name has a wrong form."""

    def __init__(self, name):
        self.name = name


class TooLarge(WaysError):
    """What is told is beyond its bound."""

    def __init__(self, what):
        self.what = what


class NotPossible(WaysError):
    """A command is not possible, for the reason told."""

    def __init__(self, why):
        self.why = why


class TextError(WaysError):
    """A text has a problem at a column, counted from 1."""

    def __init__(self, column, words):
        self.column = column
        self.words = words
