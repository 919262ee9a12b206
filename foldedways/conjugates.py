"""Conjugates of families by words, and the words that are conjugators from one family to another one."""

from foldedways.checks import check_long_word, is_tuple
from foldedways.completing import with_word
from foldedways.folding import check_family, check_two_families
from foldedways.graphs import folded_graph, neat_graph, paths_in
from foldedways.letters import backwards, folded, length_order
from foldedways.linking import derived
from foldedways.showing import shows_members
from foldedways.trees import free_words


def conjugate_graph(family, word):
    """Return the graph of the conjugate of the family by the word."""
    check_family(family)
    check_long_word(word, family[0], "word")
    (_, edges), end = with_word(folded_graph(family), word)
    return neat_graph(family[0], edges, end)


def conjugate_basis(family, word):
    """Return the basis of the conjugate of the family by the word."""
    graph = conjugate_graph(family, word)
    return free_words(family[0], graph)


def check_conjugator(family, other, word):
    """Raise BadValue if these are not two families of one rank and a word of it of at most 100 letters."""
    check_two_families(family, other)
    check_long_word(word, family[0], "word")


def is_conjugator(family, other, word):
    """Return True if the word is a conjugator from the family to the other one, otherwise False."""
    check_conjugator(family, other, word)
    return conjugate_graph(family, word) == folded_graph(other)


def conjugator(family, other):
    """Return the first conjugator, in order by length, from the family to the other one, or None."""
    check_two_families(family, other)
    # A conjugator leads along the graph of the family to some vertex, and from there into the
    # graph of the other one, backwards along its path to a vertex from which both look the same.
    goals = views_of(other)
    words = [folded(path + backwards(back)) for path, view in views_of(family) for back, seen in goals if view == seen]
    return min(words, key=length_order, default=None)


def views_of(family):
    """Return the paths to the vertices of the graph of the family, each with the neat graph seen from there."""
    rank = family[0]
    graph = folded_graph(family)
    return [(path, neat_graph(rank, graph[1], vertex)) for vertex, path in enumerate(paths_in(rank, graph))]


def conjugator_evidence(family, other, word):
    """Return evidence that the word is a conjugator from the family to the other one, or None if it is none."""
    if not is_conjugator(family, other, word):
        return None
    there = [derived(family[1], folded(told)) for told in turned_by(word, other[1])]
    return tuple(there), tuple([derived(other[1], folded(told)) for told in turned_by(backwards(word), family[1])])


def turned_by(word, given):
    """Return the list of the given words, each behind the word and before its inverse, spelled out."""
    return [word + told + backwards(word) for told in given]


def accepts_conjugator(family, other, word, value):
    """Return True if the value is evidence that the word is a conjugator to the other family, otherwise False."""
    check_conjugator(family, other, word)
    if not is_tuple(value, 2):
        return False
    if not shows_members(family, turned_by(word, other[1]), value[0]):
        return False
    return shows_members(other, turned_by(backwards(word), family[1]), value[1])
