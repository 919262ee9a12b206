"""Spelled words, read from tokens that follow the grammar."""

from foldedways.checks import MOST_LETTERS
from foldedways.errors import TextError
from foldedways.grammar import name_of
from foldedways.letters import backwards, letters_of


class Speller:
    """Tokens of a text for a rank, and how many of them have been read."""

    def __init__(self, rank, tokens):
        self.rank = rank
        self.tokens = tokens
        self.many_read = 0

    def ahead(self):
        """Return the token that comes next."""
        return self.tokens[self.many_read]

    def comes(self, names):
        """Return True if the token that comes next has one of the names, otherwise False."""
        return name_of(self.ahead()) in names

    def take(self):
        """Read the token that comes next, and return it."""
        token = self.ahead()
        self.many_read += 1
        return token

    def spelled(self):
        """Read a spelled word, and return it, spelled out."""
        if self.comes((".",)):
            self.take()
        word = ""
        while self.comes(("letter", "(", "[")):
            _, _, column = self.ahead()
            part = self.base()
            times = self.times()
            # The number can be great, so the part is not spelled out before this is known.
            if len(word) + len(part) * abs(times) > MOST_LETTERS:
                raise TextError(column, "a word has at most 24 letters")
            word += (part if times > 0 else backwards(part)) * abs(times)
        return word

    def base(self):
        """Read a part without its number, and return it, spelled out."""
        kind, characters, column = self.take()
        if kind == "letter":
            if characters not in letters_of(self.rank):
                raise TextError(column, "there is no such letter")
            return characters
        first = self.spelled()
        # Behind the first word in brackets comes a comma, not a closing sign.
        if name_of(self.take()) == ")":
            return first
        second = self.spelled()
        self.take()
        return first + second + backwards(first) + backwards(second)

    def times(self):
        """Read the number of a part, if there is one; return how many times the part stands, or its inverse."""
        if self.comes(("number",)):
            return int(self.take()[1])
        if self.comes(("-",)):
            self.take()
            return -int(self.take()[1])
        return 1
