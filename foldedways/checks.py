"""Kinds of values, and the error for an argument of another kind."""

from foldedways.errors import BadValue
from foldedways.letters import letters_of

MOST_LETTERS = 24
MOST_LONG_LETTERS = 100
HIGHEST_RANK = 3


def is_integer(value, least, most):
    """Return True if the value is an integer within the bounds, otherwise False."""
    # Python takes True and False for integers, the program does not.
    return isinstance(value, int) and not isinstance(value, bool) and least <= value <= most


def is_sign(value):
    """Return True if the value is 1 or -1, otherwise False."""
    return is_integer(value, -1, 1) and value != 0


def is_tuple(value, many):
    """Return True if the value is a tuple of so many, otherwise False."""
    return isinstance(value, tuple) and len(value) == many


def is_ascending(value, many):
    """Return True if the value is an ascending tuple of different numbers below this one, otherwise False."""
    if not isinstance(value, tuple) or not all([is_integer(number, 0, many - 1) for number in value]):
        return False
    return all([value[at - 1] < value[at] for at in range(1, len(value))])


def is_rank(value):
    """Return True if the value is a rank, otherwise False."""
    return is_integer(value, 1, HIGHEST_RANK)


def is_spelled(value, rank, most):
    """Return True if the value is a string of at most so many letters of the rank, otherwise False."""
    if not isinstance(value, str) or len(value) > most:
        return False
    letters = letters_of(rank)
    return all([letter in letters for letter in value])


def check_integer(value, least, most, name):
    """Raise BadValue with the name if the value is not an integer within the bounds."""
    if not is_integer(value, least, most):
        raise BadValue(name)


def check_rank(value):
    """Raise BadValue("rank") if the value is not a rank."""
    if not is_rank(value):
        raise BadValue("rank")


def check_word(value, rank, name):
    """Raise BadValue with the name if the value is not a word of the rank."""
    if not is_spelled(value, rank, MOST_LETTERS):
        raise BadValue(name)


def check_long_word(value, rank, name):
    """Raise BadValue with the name if the value is not a string of at most 100 letters of the rank."""
    if not is_spelled(value, rank, MOST_LONG_LETTERS):
        raise BadValue(name)


def check_words(value, rank, most, name):
    """Raise BadValue with the name if the value is not a tuple of at most so many words of the rank."""
    if not isinstance(value, tuple) or len(value) > most:
        raise BadValue(name)
    for word in value:
        check_word(word, rank, name)
