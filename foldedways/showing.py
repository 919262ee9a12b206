"""Evidence for two families of one rank: contained or not, equal, apart, and for words that are common or not."""

from foldedways.answers import is_answer
from foldedways.checks import check_long_word, check_word, is_integer, is_tuple
from foldedways.comparing import is_contained
from foldedways.completing import action_against, is_against
from foldedways.derivations import derivation_for, shows_member
from foldedways.folding import check_two_families


def contained_evidence(family, other):
    """Return evidence that the family is contained in the other one, or None if it is not."""
    if not is_contained(family, other):
        return None
    return tuple([derivation_for(other, word) for word in family[1]])


def accepts_contained(family, other, value):
    """Return True if the value is evidence that the family is contained in the other one, otherwise False."""
    check_two_families(family, other)
    return shows_members(other, family[1], value)


def shows_members(family, words, value):
    """Return True if the value is a tuple of accepted derivations, one for each word of any length, otherwise False."""
    if not is_tuple(value, len(words)):
        return False
    return all([shows_member(family, word, told) for word, told in zip(words, value)])


def outside_evidence(family, other):
    """Return evidence that the family is not contained in the other one, or None if it is."""
    check_two_families(family, other)
    for index, word in enumerate(family[1]):
        action = action_against(other, word)
        if action is not None:
            return index, action
    return None


def accepts_outside(family, other, value):
    """Return True if the value is evidence that the family is not contained in the other one, otherwise False."""
    check_two_families(family, other)
    given = family[1]
    if not is_tuple(value, 2) or not is_integer(value[0], 0, len(given) - 1):
        return False
    index, action = value
    return is_against(other, [given[index]], action)


def accepts_equal(family, other, value):
    """Return True if the value is evidence that the two families are equal, otherwise False."""
    check_two_families(family, other)
    if not is_tuple(value, 2):
        return False
    return shows_members(other, family[1], value[0]) and shows_members(family, other[1], value[1])


def accepts_apart(family, other, word, value):
    """Return True if the value is evidence that the word tells the two families apart, otherwise False."""
    check_two_families(family, other)
    check_long_word(word, family[0], "word")
    if not is_tuple(value, 2):
        return False
    if not is_answer(family, word, value[0]) or not is_answer(other, word, value[1]):
        return False
    return value[0][0] != value[1][0]


def common_evidence(family, other, word):
    """Return "common" or "not", as the word belongs to both families or not, with evidence for it."""
    check_two_families(family, other)
    check_word(word, family[0], "word")
    for which, told in enumerate((family, other)):
        action = action_against(told, word)
        if action is not None:
            return "not", (which, action)
    return "common", (derivation_for(family, word), derivation_for(other, word))


def accepts_common(family, other, word, value):
    """Return True if the value is "common" or "not" with accepted evidence for it, otherwise False."""
    check_two_families(family, other)
    check_word(word, family[0], "word")
    if not is_tuple(value, 2) or not isinstance(value[0], str) or not is_tuple(value[1], 2):
        return False
    kind, (first, second) = value
    if kind == "common":
        return shows_member(family, word, first) and shows_member(other, word, second)
    if kind != "not" or not is_integer(first, 0, 1):
        return False
    return is_against(other if first == 1 else family, [word], second)
