"""Kinds of values, and the error for an argument of another kind."""

from foldedways.errors import BadValue
from foldedways.letters import letters_of

MOST_LETTERS = 24
HIGHEST_RANK = 3


def is_integer(value, least, most):
    """Return True if the value is an integer within the bounds, otherwise False."""
    # Python takes True and False for integers, the program does not.
    return isinstance(value, int) and not isinstance(value, bool) and least <= value <= most


def is_rank(value):
    """Return True if the value is a rank, otherwise False."""
    return is_integer(value, 1, HIGHEST_RANK)


def is_spelled(value, rank, most):
    """Return True if the value is a string of at most so many letters of the rank, otherwise False."""
    if not isinstance(value, str) or len(value) > most:
        return False
    letters = letters_of(rank)
    return all([letter in letters for letter in value])


def check_integer(value, least, most, name):
    """Raise BadValue with the name if the value is not an integer within the bounds."""
    if not is_integer(value, least, most):
        raise BadValue(name)


def check_rank(value):
    """Raise BadValue("rank") if the value is not a rank."""
    if not is_rank(value):
        raise BadValue("rank")


def check_word(value, rank, name):
    """Raise BadValue with the name if the value is not a word of the rank."""
    if not is_spelled(value, rank, MOST_LETTERS):
        raise BadValue(name)
