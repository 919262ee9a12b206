"""Words, families and actions read from their texts, and what can come behind a beginning of a text."""

from foldedways.actions import MOST_POINTS
from foldedways.checks import HIGHEST_RANK, check_rank, is_rank
from foldedways.errors import BadValue, TextError
from foldedways.folding import MOST_GIVEN, MOST_GIVEN_LETTERS
from foldedways.grammar import can_come, told_tokens, waiting_behind
from foldedways.scanning import check_text, scan
from foldedways.spelling import Speller


def next_tokens(text, kind):
    """Return the list of what can come behind the tokens of the text, a beginning of a text of the kind."""
    check_text(text)
    if not isinstance(kind, str) or kind not in ("word", "family", "action"):
        raise BadValue("kind")
    return told_tokens(can_come(waiting_behind(scan(text)[:-1], kind)))


def tokens_of(text, kind):
    """Return the list of the tokens of a text of the kind."""
    tokens = scan(text)
    waiting_behind(tokens, kind)
    return tokens


def read_word(rank, text):
    """Return the word of the rank that the text tells, spelled out."""
    check_rank(rank)
    speller = Speller(rank, tokens_of(text, "word"))
    return speller.spelled()


def read_family(text):
    """Return the family that the text tells."""
    tokens = tokens_of(text, "family")
    _, characters, column = tokens[0]
    rank = int(characters)
    if not is_rank(rank):
        raise TextError(column, "a rank is from 1 to 3")
    # The given words stand behind the rank and the colon.
    speller = Speller(rank, tokens[2:])
    given = []
    while not speller.comes(("end",)):
        given.append(given_word(speller, len(given)))
        if speller.comes((",",)):
            speller.take()
    return rank, tuple(given)


def given_word(speller, many):
    """Read a given word behind so many others, and return it."""
    _, _, column = speller.ahead()
    if many == MOST_GIVEN:
        raise TextError(column, "there are at most 4 given words")
    word = speller.spelled()
    if len(word) > MOST_GIVEN_LETTERS:
        raise TextError(column, "a given word has at most 8 letters")
    return word


def read_action(text):
    """Return the action that the text tells."""
    rows = []
    row = []
    for kind, characters, column in tokens_of(text, "action"):
        if kind == "number":
            if len(rows) == HIGHEST_RANK:
                raise TextError(column, "there are at most 3 letters")
            row.append(next_image(row, int(characters), column))
        else:
            check_row(rows, row, column)
            rows.append(tuple(row))
            row = []
    return tuple(rows)


def next_image(row, point, column):
    """Return the image, if it can stand behind the others of its row."""
    if len(row) == MOST_POINTS:
        raise TextError(column, "there are at most 60 points")
    if point in row:
        raise TextError(column, "this image stands already")
    return point


def check_row(rows, row, column):
    """Raise TextError if the row cannot stand behind the other ones."""
    if rows and len(row) != len(rows[0]):
        raise TextError(column, "all letters have the same points")
    if max(row) >= len(row):
        raise TextError(column, "an image is too great")
