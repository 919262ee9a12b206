"""Answers: whether a word belongs to a family, with evidence."""

from foldedways.checks import check_word, is_tuple
from foldedways.completing import action_against, is_against
from foldedways.derivations import derivation_for, shows_member
from foldedways.folding import check_family


def answer_for(family, word):
    """Return the told answer for the word."""
    derivation = derivation_for(family, word)
    if derivation is None:
        return "none", action_against(family, word)
    return "member", derivation


def accepts_answer(family, word, value):
    """Return True if the value is an answer that is accepted for the word, otherwise False."""
    check_family(family)
    check_word(word, family[0], "word")
    return is_answer(family, word, value)


def is_answer(family, word, value):
    """Return True if the value is an answer that is accepted for a word of any length, otherwise False."""
    if not is_tuple(value, 2) or not isinstance(value[0], str):
        return False
    kind, evidence = value
    if kind == "member":
        return shows_member(family, word, evidence)
    return kind == "none" and is_against(family, [word], evidence)
