"""What the document says of texts, done as plainly as it is told, for the tests to compare with.

Tokens are told here by the words of point 129, and what they mean by their characters.
"""

import re
from random import Random

from tests.plain import LETTERS, plain_inverse

ORDER = ["a letter", "a number"] + [f'"{sign}"' for sign in "()[],-.:;"] + ["the end"]
GRAMMAR = {
    "WORD": ("seq", "SPELLED", "the end"),
    "SPELLED": ("or", '"."', ("seq", "PART", ("any", "PART"))),
    "PART": ("seq", ("or", "a letter", ("seq", '"("', "SPELLED", '")"'),
                     ("seq", '"["', "SPELLED", '","', "SPELLED", '"]"')), ("maybe", ("maybe", '"-"'), "a number")),
    "FAMILY": ("seq", "a number", '":"', ("maybe", "SPELLED", ("any", '","', "SPELLED")), "the end"),
    "ACTION": ("seq", "IMAGES", ("any", '";"', "IMAGES"), "the end"),
    "IMAGES": ("seq", "a number", ("any", "a number")),
}
KINDS = ("word", "family", "action")


class Problem(Exception):
    """A problem of a text, at a token with this number."""

    def __init__(self, token, words):
        self.token = token
        self.words = words


def ways_on(waiting):
    """Return all pairs of a token that can come and what waits behind it."""
    if not waiting:
        return set()
    first, rest = waiting[0], waiting[1:]
    if first in GRAMMAR:
        return ways_on((GRAMMAR[first],) + rest)
    if isinstance(first, str):
        return {(first, rest)}
    kind, parts = first[0], first[1:]
    if kind == "seq":
        return ways_on(parts + rest)
    if kind == "or":
        return set().union(*[ways_on((part,) + rest) for part in parts])
    again = (first,) if kind == "any" else ()
    return ways_on(parts + again + rest) | ways_on(rest)


def coming_at(kind, tokens):
    """Return what can come at each place of the tokens, up to the first one that cannot come at its own."""
    states = {(kind.upper(),)}
    told = []
    for token in tokens + [None]:
        ways = set().union(*[ways_on(state) for state in states])
        told.append(sorted({way[0] for way in ways}, key=ORDER.index))
        states = {rest for other, rest in ways if other == token}
        if not states:
            break
    return told


def expected(words):
    """Return the words of a problem, by point 129."""
    text = words[0]
    for at, word in enumerate(words[1:], 1):
        text += (" or " if at == len(words) - 1 else ", ") + word
    return "expected " + text


def kind_of(characters):
    """Return the words that tell a token."""
    if characters == "":
        return "the end"
    if characters in LETTERS:
        return "a letter"
    return "a number" if characters.isdigit() else f'"{characters}"'


def draw(chance, item, depth=0):
    """Draw the characters of tokens that follow the grammar, nested not too deep."""
    if isinstance(item, str):
        if item in GRAMMAR:
            return draw(chance, GRAMMAR[item], depth + (item == "PART"))
        if item == "a letter":
            return [chance.choice("aabbcABC")]
        if item == "a number":
            return [chance.choice(("0", "1", "1", "2", "2", "3", "4", "12", "007", "25", "999999"))]
        return [] if item == "the end" else [item[1]]
    kind, parts = item[0], item[1:]
    if kind == "or":
        parts = (chance.choice(parts if depth < 5 else parts[:1]),)
    many = chance.choice({"any": (0, 0, 1, 1, 2, 3), "maybe": (0, 1)}.get(kind, (1,)))
    return [token for _ in range(many) for part in parts for token in draw(chance, part, depth)]


def drawn_tokens(kind, many, seed):
    """Draw texts of a kind, as lists of the characters of their tokens."""
    chance = Random(seed)
    texts = []
    while len(texts) < many:
        tokens = draw(chance, kind.upper())
        if len(tokens) <= 40:
            texts.append(tokens)
    return texts


def spoilt_tokens(chance, tokens):
    """Return the tokens with some of them left out, put in or replaced."""
    tokens = list(tokens)
    for _ in range(chance.randint(1, 2)):
        at = chance.randint(0, len(tokens))
        more = [chance.choice(["a", "B", "c", "1", "0", "3"] + list("()[],-.:;"))]
        tokens[at:at + chance.randint(0, 1)] = more if chance.random() < 0.7 else []
    return tokens


def spaced(chance, tokens):
    """Return a text of the tokens with drawn blanks, and the column of each of them and of the end."""
    text, columns = " " * chance.choice((0, 0, 1)), []
    for at, token in enumerate(tokens):
        if at and token.isdigit() and tokens[at - 1].isdigit() and not text.endswith(" "):
            text += " "
        columns.append(len(text) + 1)
        text += token + " " * chance.choice((0, 0, 0, 1, 2))
    return text, columns + [len(text) + 1]


def plain_problem(text):
    """Return the column and the words of the problem of the first token that has one, by point 127; or None."""
    found = re.finditer("[aAbBcC]|[0-9]+|[^ ]", text)
    pieces = [(piece.group(), piece.start() + 1) for piece in found]
    for characters, column in pieces:
        if not re.fullmatch(r"[aAbBcC]|[0-9]+|[()\[\],.:;-]", characters):
            return column, "no token begins here"
        if len(characters) > 6:
            return column, "a number has at most 6 digits"
        if characters in "([" and still_open(text[:column - 1]) >= 8:
            return column, "nested too deep"
    return None


def still_open(text):
    """Count the signs of the text that are open at its end."""
    text = re.sub(r"[^()\[\]]", "", text)
    while re.search(r"[(\[][)\]]", text):
        text = re.sub(r"[(\[][)\]]", "", text)
    return len(re.sub(r"[)\]]", "", text))


class Spelled:
    """The tokens of a text of which a part is read, and the place where the reading is."""

    def __init__(self, rank, tokens, at):
        self.rank, self.tokens, self.at = rank, tokens + [""], at

    def take(self):
        """Return the token, and go on."""
        self.at += 1
        return self.tokens[self.at - 1]

    def word(self):
        """Spell a word out, by points 130 and 131."""
        whole = ""
        if self.tokens[self.at] == ".":
            self.take()
            return whole
        while self.tokens[self.at] and self.tokens[self.at] in LETTERS + "([":
            first = self.at
            part = self.part()
            inverted = self.tokens[self.at] == "-"
            if inverted:
                self.take()
            many = int(self.take()) if inverted or self.tokens[self.at].isdigit() else 1
            # A part that is not empty is too long in any case if it stands more than 25 times.
            repeated = (plain_inverse(part) if inverted else part) * min(many, 25)
            if max(len(repeated), len(whole + repeated)) > 24:
                raise Problem(first, "a word has at most 24 letters")
            whole += repeated
        return whole

    def part(self):
        """Spell a part out, without its number."""
        first = self.take()
        if first not in "([":
            if first not in LETTERS[:2 * self.rank]:
                raise Problem(self.at - 1, "there is no such letter")
            return first
        one = self.word()
        self.take()
        if first == "(":
            return one
        other = self.word()
        self.take()
        return one + other + plain_inverse(one) + plain_inverse(other)


def plain_word(rank, tokens):
    """Read the word that tokens tell that follow the grammar."""
    return Spelled(rank, tokens, 0).word()


def plain_family(tokens):
    """Read the family that tokens tell that follow the grammar, by point 132."""
    rank = int(tokens[0])
    if rank not in (1, 2, 3):
        raise Problem(0, "a rank is from 1 to 3")
    spelled, given = Spelled(rank, tokens, 2), []
    while spelled.at < len(tokens):
        first = spelled.at
        if len(given) == 4:
            raise Problem(first, "there are at most 4 given words")
        given.append(spelled.word())
        if len(given[-1]) > 8:
            raise Problem(first, "a given word has at most 8 letters")
        spelled.take()
    return rank, tuple(given)


def plain_action(tokens):
    """Read the action that tokens tell that follow the grammar, by point 133."""
    rows = [[]]
    for at, token in enumerate(tokens + [""]):
        row = rows[-1]
        if token.isdigit():
            if len(rows) == 4 and not row:
                raise Problem(at, "there are at most 3 letters")
            if len(row) == 60:
                raise Problem(at, "there are at most 60 points")
            if int(token) in row:
                raise Problem(at, "this image stands already")
            row.append(int(token))
        else:
            if len(row) != len(rows[0]):
                raise Problem(at, "all letters have the same points")
            if any(image >= len(row) for image in row):
                raise Problem(at, "an image is too great")
            rows.append([])
    return tuple(tuple(row) for row in rows[:-1])
