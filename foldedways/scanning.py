"""The tokens of texts."""

from foldedways.errors import BadValue, TextError
from foldedways.letters import LETTERS

MOST_CHARACTERS = 400
MOST_DIGITS = 6
MOST_OPEN = 8
DIGITS = "0123456789"
SIGNS = "()[],-.:;"
OPENING = "(["
CLOSING = ")]"


def check_text(value):
    """Raise BadValue("text") if the value is not a string of at most 400 characters without newlines."""
    if not isinstance(value, str) or len(value) > MOST_CHARACTERS or "\n" in value:
        raise BadValue("text")


def scan(text):
    """Return the list of the tokens of the text, each a tuple (kind, characters, column)."""
    check_text(text)
    tokens = []
    many_open = 0
    at = 0
    while at < len(text):
        if text[at] == " ":
            at += 1
        else:
            kind, characters = token_at(text, at)
            many_open = open_behind(many_open, characters, at + 1)
            tokens.append((kind, characters, at + 1))
            at += len(characters)
    tokens.append(("end", "", len(text) + 1))
    return tokens


def token_at(text, at):
    """Return the kind and the characters of the token that begins at this place."""
    if text[at] in LETTERS:
        return "letter", text[at]
    if text[at] in SIGNS:
        return "sign", text[at]
    end = at
    while end < len(text) and text[end] in DIGITS:
        end += 1
    if end == at:
        raise TextError(at + 1, "no token begins here")
    if end - at > MOST_DIGITS:
        raise TextError(at + 1, "a number has at most 6 digits")
    return "number", text[at:end]


def open_behind(many_open, characters, column):
    """Return how many signs are open behind the token."""
    if characters in OPENING:
        if many_open == MOST_OPEN:
            raise TextError(column, "nested too deep")
        return many_open + 1
    # Signs of both kinds close alike; where nothing is open, they change nothing.
    if characters in CLOSING and many_open > 0:
        return many_open - 1
    return many_open
