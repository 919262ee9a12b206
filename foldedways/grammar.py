"""What can come where in the texts of words, families and actions.

What waits at a place of a text is a tuple: tokens that have to come, and parts of the
grammar, in their sequence. A letter, a number and the end are told by their kind,
signs by themselves.
"""

from foldedways.errors import TextError

# Tokens, in the order in which they are told.
TOKENS = ("letter", "number", "(", ")", "[", "]", ",", "-", ".", ":", ";", "end")
TOLD = {"letter": "a letter", "number": "a number", "end": "the end"}

# What waits at the beginning of a text.
TEXTS = {
    "word": ("spelled", "end"),
    "family": ("number", ":", "given", "end"),
    "action": ("number", "numbers", "rows", "end"),
}

# These parts can be left out.
OPTIONAL = ("parts", "power", "given", "others", "numbers", "rows")

# What waits behind a token with which a part begins, until this part is over.
BEGINNINGS = {
    ("spelled", "letter"): ("power", "parts"),
    ("spelled", "("): ("spelled", ")", "power", "parts"),
    ("spelled", "["): ("spelled", ",", "spelled", "]", "power", "parts"),
    ("spelled", "."): (),
    ("parts", "letter"): ("power", "parts"),
    ("parts", "("): ("spelled", ")", "power", "parts"),
    ("parts", "["): ("spelled", ",", "spelled", "]", "power", "parts"),
    ("power", "number"): (),
    ("power", "-"): ("number",),
    ("given", "letter"): ("power", "parts", "others"),
    ("given", "("): ("spelled", ")", "power", "parts", "others"),
    ("given", "["): ("spelled", ",", "spelled", "]", "power", "parts", "others"),
    ("given", "."): ("others",),
    ("others", ","): ("spelled", "others"),
    ("numbers", "number"): ("numbers",),
    ("rows", ";"): ("number", "numbers", "rows"),
}


def name_of(token):
    """Return the name of a token: a sign itself, otherwise the kind."""
    kind, characters, _ = token
    return characters if kind == "sign" else kind


def beginnings_of(name):
    """Return the list of the tokens with which a part begins, or of the token alone that waits."""
    if name in TOKENS:
        return [name]
    return [token for part, token in BEGINNINGS if part == name]


def can_come(waiting):
    """Return the list of the tokens that can come where this waits, in their order."""
    found = []
    for name in waiting:
        found += beginnings_of(name)
        if name not in OPTIONAL:
            break
    return [token for token in TOKENS if token in found]


def waiting_behind(tokens, kind):
    """Return what waits behind the tokens, if a text of the kind can begin with them."""
    waiting = TEXTS[kind]
    for token in tokens:
        name = name_of(token)
        coming = can_come(waiting)
        if name not in coming:
            raise TextError(token[2], "expected " + listed(told_tokens(coming)))
        at = 0
        while name not in beginnings_of(waiting[at]):
            at += 1
        waiting = BEGINNINGS.get((waiting[at], name), ()) + waiting[at + 1:]
    return waiting


def told_tokens(names):
    """Return the list of the words by which the tokens are told."""
    return [TOLD.get(name, '"' + name + '"') for name in names]


def listed(words):
    """Return the words with commas between them and `or` before the last one."""
    if len(words) == 1:
        return words[0]
    return ", ".join(words[:-1]) + " or " + words[-1]
