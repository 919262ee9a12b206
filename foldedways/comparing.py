"""Two families of one rank: what they have in common, what they make together, and what tells them apart."""

from foldedways.folding import check_two_families
from foldedways.graphs import folded_graph, goal_of, neat_graph
from foldedways.letters import letters_of
from foldedways.moves import first_ways, moves_along
from foldedways.trees import free_words
from foldedways.words import letters_behind


def common_graph(family, other):
    """Return the graph of the common words of the two families."""
    check_two_families(family, other)
    rank = family[0]
    edges = edges_in_both(folded_graph(family), folded_graph(other))
    reached = first_ways(moves_along(edges), letters_of(rank), (0, 0))
    return neat_graph(rank, [edge for edge in edges if edge[0] in reached], (0, 0))


def edges_in_both(one, other):
    """Return the edges between pairs of a vertex of the one graph and a vertex of the other one."""
    return [
        ((start, beside), letter, (end, behind))
        for start, letter, end in one[1]
        for beside, told, behind in other[1]
        if told == letter
    ]


def common_basis(family, other):
    """Return the basis of the common words of the two families."""
    graph = common_graph(family, other)
    return free_words(family[0], graph)


def both_graph(family, other):
    """Return the graph of both families together."""
    check_two_families(family, other)
    return folded_graph((family[0], family[1] + other[1]))


def both_basis(family, other):
    """Return the basis of both families together."""
    graph = both_graph(family, other)
    return free_words(family[0], graph)


def is_contained(family, other):
    """Return True if the family is contained in the other one, otherwise False."""
    check_two_families(family, other)
    return all([goal_of(other, word) == 0 for word in family[1]])


def are_equal(family, other):
    """Return True if the two families are equal, otherwise False."""
    check_two_families(family, other)
    return folded_graph(family) == folded_graph(other)


def telling_word(family, other):
    """Return the first word, in order by length, that tells the two families apart, or None."""
    check_two_families(family, other)
    left = moves_along(folded_graph(family)[1])
    right = moves_along(folded_graph(other)[1])
    waiting = [("", 0, 0)]
    seen = {}
    at = 0
    # Words wait in order by length, each as the first one that leads to its vertices with its last letter.
    while at < len(waiting):
        word, place, beside = waiting[at]
        at += 1
        if (place == 0) != (beside == 0):
            return word
        for letter in letters_behind(family[0], word):
            goals = left.get((place, letter)), right.get((beside, letter))
            if (goals, letter) not in seen:
                seen[(goals, letter)] = True
                waiting.append((word + letter, goals[0], goals[1]))
    return None
