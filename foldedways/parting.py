"""Several words told from a family at once."""

from foldedways.actions import MOST_POINTS
from foldedways.checks import check_words, is_ascending, is_tuple
from foldedways.completing import completed, is_against, with_word
from foldedways.derivations import derivation_for, shows_member
from foldedways.errors import TooLarge
from foldedways.folding import check_family
from foldedways.graphs import belongs, folded_graph

MOST_WORDS = 6


def check_family_and_words(family, words):
    """Raise BadValue if the one is not a family, or the others are not a tuple of so few words of its rank."""
    check_family(family)
    check_words(words, family[0], MOST_WORDS, "words")


def told_against_all(family, words):
    """Return the told action against all of the words, or None if one of them belongs to the family."""
    check_family_and_words(family, words)
    if any([belongs(family, word) for word in words]):
        return None
    graph = folded_graph(family)
    for word in words:
        graph, _ = with_word(graph, word)
    if graph[0] > MOST_POINTS:
        raise TooLarge("points")
    return completed(family[0], graph)


def parted(family, words):
    """Return the parting of the words: the indexes of those that belong, and those of the others."""
    check_family_and_words(family, words)
    members = [at for at, word in enumerate(words) if belongs(family, word)]
    return tuple(members), tuple([at for at in range(len(words)) if at not in members])


def evidence_for(family, words):
    """Return accepted evidence for the parting of the words."""
    members, others = parted(family, words)
    action = told_against_all(family, tuple([words[at] for at in others])) if others else None
    return tuple([derivation_for(family, words[at]) for at in members]), action


def accepts_parting(family, words, parting, evidence):
    """Return True if the parting and the evidence for it are accepted, otherwise False."""
    check_family_and_words(family, words)
    if not is_parting(parting, len(words)) or not is_tuple(evidence, 2):
        return False
    members, others = parting
    derivations, action = evidence
    if not is_tuple(derivations, len(members)):
        return False
    if not all([shows_member(family, words[at], told) for at, told in zip(members, derivations)]):
        return False
    if not others:
        return action is None
    return is_against(family, [words[at] for at in others], action)


def is_parting(value, many):
    """Return True if the value is a pair of ascending tuples that have each index once, otherwise False."""
    if not is_tuple(value, 2) or not all([is_ascending(part, many) for part in value]):
        return False
    return sorted(value[0] + value[1]) == list(range(many))
