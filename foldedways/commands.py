"""The commands of a workspace: when they are possible, and what they do to its given words and its bounds."""

from foldedways.actions import is_action, returns
from foldedways.checks import is_integer, is_spelled, is_tuple
from foldedways.folding import MOST_GIVEN, MOST_GIVEN_LETTERS

MOST_BOUNDS = 3
MOST_COMMANDS = 20
GREATEST_NUMBER = 3


def is_command(value, rank):
    """Return True if the value is a command for the rank, otherwise False."""
    if not is_tuple(value, 2) or not isinstance(value[0], str):
        return False
    kind, told = value
    if kind == "give":
        return is_spelled(told, rank, MOST_GIVEN_LETTERS)
    if kind == "bind":
        return is_action(told, rank)
    return kind in ("drop", "loose") and is_integer(told, 0, GREATEST_NUMBER)


def why_not(given, bounds, command):
    """Return the word that tells why the command is not possible, or None if it is."""
    kind, told = command
    if kind == "give":
        if len(given) == MOST_GIVEN:
            return "many"
        return None if all([returns(action, told) for action in bounds]) else "bound"
    if kind == "bind":
        if len(bounds) == MOST_BOUNDS:
            return "many"
        return None if all([returns(told, word) for word in given]) else "word"
    numbered = given if kind == "drop" else bounds
    return None if told < len(numbered) else "missing"


def carried_out(given, bounds, command):
    """Return the pair of the given words and the bounds behind a command that is possible."""
    kind, told = command
    if kind == "give":
        return given + (told,), bounds
    if kind == "bind":
        return given, bounds + (told,)
    if kind == "drop":
        return without(given, told), bounds
    return given, without(bounds, told)


def without(items, number):
    """Return the tuple without the item with this number."""
    return items[:number] + items[number + 1:]
