"""Graphs with attached words, graphs completed to actions, and actions against words."""

from foldedways.actions import is_action, moves_of
from foldedways.checks import check_word
from foldedways.folding import check_family, edge_behind
from foldedways.graphs import folded_graph, paths_in
from foldedways.letters import folded, small_letters_of
from foldedways.moves import follow, moves_along
from foldedways.trees import loop_along


def attached(family, word):
    """Return the pair of the graph of the family with the attached word, and the end."""
    check_family(family)
    check_word(word, family[0], "word")
    return with_word(folded_graph(family), word)


def with_word(graph, word):
    """Return the pair of the graph with the attached word, and the end."""
    vertices, edges = graph
    moves = moves_along(edges)
    more = []
    place = 0
    for letter in folded(word):
        if (place, letter) in moves:
            place = moves[(place, letter)]
        else:
            # What is put in is not walked again: the word is reduced.
            more.append(edge_behind(place, letter, vertices))
            place = vertices
            vertices += 1
    return (vertices, tuple(sorted(list(edges) + more))), place


def completed(rank, graph):
    """Return the action to which the graph is completed."""
    return tuple([images_by(letter, graph) for letter in small_letters_of(rank)])


def images_by(letter, graph):
    """Return the tuple of the points to which the small letter takes the points of the completed graph."""
    vertices, edges = graph
    images = {start: end for start, told, end in edges if told == letter}
    entered = {end: True for end in images.values()}
    left = [point for point in range(vertices) if point not in images]
    free = [point for point in range(vertices) if point not in entered]
    for start, end in zip(left, free):
        images[start] = end
    return tuple([images[point] for point in range(vertices)])


def full_action(family):
    """Return the full action of the family."""
    check_family(family)
    return completed(family[0], folded_graph(family))


def action_against(family, word):
    """Return the told action against the word, or None if it belongs to the family."""
    graph, end = attached(family, word)
    return None if end == 0 else completed(family[0], graph)


def accepts_action(family, word, value):
    """Return True if the value is an action against the word, otherwise False."""
    check_family(family)
    check_word(word, family[0], "word")
    return is_against(family, [word], value)


def is_against(family, words, value):
    """Return True if the value is an action against each of these words, otherwise False."""
    if not keeps(family, value):
        return False
    moves = moves_of(value)
    return all([follow(moves, 0, word) != 0 for word in words])


def keeps(family, value):
    """Return True if the value is an action in which all given words return, otherwise False."""
    rank, given = family
    if not is_action(value, rank):
        return False
    moves = moves_of(value)
    return all([follow(moves, 0, word) == 0 for word in given])


def further_words(family):
    """Return the tuple of the further words of the family."""
    check_family(family)
    rank = family[0]
    graph = folded_graph(family)
    ways = paths_in(rank, graph)
    moves = moves_along(graph[1])
    words = []
    for vertex in range(graph[0]):
        for letter, row in zip(small_letters_of(rank), completed(rank, graph)):
            if (vertex, letter) not in moves:
                words.append(loop_along(ways, (vertex, letter, row[vertex])))
    return tuple(words)
