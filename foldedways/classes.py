"""Classes of words by a family, and grounds for their number."""

from foldedways.checks import check_word, is_tuple
from foldedways.derivations import shows_member
from foldedways.folding import check_family
from foldedways.graphs import folded_graph, goal_of, is_neat, paths
from foldedways.letters import backwards, folded
from foldedways.linking import derived
from foldedways.moves import follow, moves_along
from foldedways.trees import count_free_edges, free_words


def count_classes(family):
    """Return the number of classes, or None if it is not finite."""
    check_family(family)
    vertices, edges = folded_graph(family)
    # Each letter leaves, and enters, each vertex at most once, so no edge is missing if there are so many.
    return vertices if len(edges) == vertices * family[0] else None


def first_words(family):
    """Return the tuple of the first words of the classes, or None if their number is not finite."""
    return None if count_classes(family) is None else paths(family)


def are_in_one_class(family, first, second):
    """Return True if the two words are in the same class, otherwise False."""
    check_family(family)
    check_word(first, family[0], "first")
    check_word(second, family[0], "second")
    return goal_of(family, first + backwards(second)) == 0


def class_grounds(family):
    """Return grounds for the number of classes."""
    check_family(family)
    graph = folded_graph(family)
    return graph, tuple([derived(family[1], word) for word in free_words(family[0], graph)])


def accepts_classes(family, value):
    """Return True if the value is accepted grounds for the number of classes, otherwise False."""
    check_family(family)
    rank, given = family
    if not is_tuple(value, 2) or not is_neat(rank, value[0]):
        return False
    graph, derivations = value
    if not is_tuple(derivations, count_free_edges(graph)):
        return False
    moves = moves_along(graph[1])
    if not all([follow(moves, 0, folded(word)) == 0 for word in given]):
        return False
    return all([shows_member(family, word, told) for word, told in zip(free_words(rank, graph), derivations)])
