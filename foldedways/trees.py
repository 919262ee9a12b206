"""The tree of a neat graph, its free edges, and the words that go along them. Nothing is checked here."""

from foldedways.graphs import paths_in
from foldedways.letters import backwards, opposite


def free_edges(rank, graph):
    """Return the list of the edges that are not in the tree of the neat graph, in ascending order."""
    ways = paths_in(rank, graph)
    return [edge for edge in graph[1] if not is_in_tree(ways, edge)]


def is_in_tree(ways, edge):
    """Return True if the last letter of one of the paths goes along the edge, otherwise False."""
    start, letter, end = edge
    return ways[end] == ways[start] + letter or ways[start] == ways[end] + opposite(letter)


def loop_along(ways, edge):
    """Return the path to the start of the edge, its letter, and the inverse of the path to its end."""
    start, letter, end = edge
    return ways[start] + letter + backwards(ways[end])


def count_free_edges(graph):
    """Return the number of the free edges of the neat graph."""
    vertices, edges = graph
    # The tree has one edge for each vertex other than 0.
    return len(edges) - vertices + 1


def free_words(rank, graph):
    """Return the tuple of the words along the free edges of the neat graph, in their order."""
    ways = paths_in(rank, graph)
    return tuple([loop_along(ways, edge) for edge in free_edges(rank, graph)])
