"""The folded graph of a family, and the words that are walked in it."""

from foldedways.checks import check_rank, check_word, is_integer, is_tuple
from foldedways.folding import check_family, least_points, petals_of
from foldedways.letters import folded, letters_of, small_letters_of
from foldedways.moves import first_ways, follow, moves_along


def graph_of(family):
    """Return the graph of the family."""
    check_family(family)
    return folded_graph(family)


def folded_graph(family):
    """Return the graph of what is known to be a family."""
    rank, given = family
    edges, ends = petals_of(given)
    least = least_points(edges, ends)
    return numbered(rank, [(least[start], letter, least[end]) for start, letter, end in edges], 0)


def numbered(rank, edges, first):
    """Return the graph of these edges, with its vertices numbered as they are found from the first one on."""
    ways = first_ways(moves_along(edges), letters_of(rank), first)
    numbers = {place: number for number, place in enumerate(ways)}
    return len(ways), tuple(sorted({(numbers[start], letter, numbers[end]) for start, letter, end in edges}))


def neat_graph(rank, edges, first):
    """Return the neat graph of these edges, of which each can be reached from the first vertex."""
    kept = list(edges)
    many = -1
    while many != len(kept):
        many = len(kept)
        ends = count_ends(kept)
        # The first vertex stays, however few edge ends it has.
        ends[first] = 2
        kept = [(start, letter, end) for start, letter, end in kept if ends[start] > 1 and ends[end] > 1]
    return numbered(rank, kept, first)


def count_ends(edges):
    """Return how many edge ends each vertex has."""
    ends = {}
    for start, _, end in edges:
        ends[start] = ends.get(start, 0) + 1
        ends[end] = ends.get(end, 0) + 1
    return ends


def is_neat(rank, value):
    """Return True if the value is a neat graph of the rank, otherwise False."""
    check_rank(rank)
    if not is_graph(rank, value):
        return False
    vertices, edges = value
    moves = moves_along(edges)
    # Two edges with one letter that leave, or enter, one vertex make one move there.
    if len(moves) != 2 * len(edges):
        return False
    ways = first_ways(moves, letters_of(rank), 0)
    if len(ways) != vertices or list(ways) != list(range(vertices)):
        return False
    ends = count_ends(edges)
    return all([ends[vertex] > 1 for vertex in range(1, vertices)])


def is_graph(rank, value):
    """Return True if the value is a graph of the rank with enough edges for its vertices, otherwise False."""
    if not is_tuple(value, 2):
        return False
    vertices, edges = value
    # To reach a further vertex takes a further edge, so more vertices than this are never neat.
    if not isinstance(edges, tuple) or not is_integer(vertices, 1, len(edges) + 1):
        return False
    if not all([is_edge(rank, vertices, edge) for edge in edges]):
        return False
    return all([edges[at - 1] < edges[at] for at in range(1, len(edges))])


def is_edge(rank, vertices, value):
    """Return True if the value is an edge between such vertices with a letter of the rank, otherwise False."""
    if not is_tuple(value, 3):
        return False
    start, letter, end = value
    if not is_integer(start, 0, vertices - 1) or not is_integer(end, 0, vertices - 1):
        return False
    return isinstance(letter, str) and letter in list(small_letters_of(rank))


def walk(family, word):
    """Return the vertex to which the reduced form of the word leads from 0, or None if it leaves the graph."""
    check_family(family)
    check_word(word, family[0], "word")
    return goal_of(family, word)


def goal_of(family, word):
    """Return the vertex to which the reduced form of a word of any length leads from 0, or None."""
    _, edges = folded_graph(family)
    return follow(moves_along(edges), 0, folded(word))


def belongs(family, word):
    """Return True if the word belongs to the family, otherwise False."""
    return walk(family, word) == 0


def paths(family):
    """Return the tuple of the paths to the vertices, in the sequence of their numbers."""
    check_family(family)
    return tuple(paths_in(family[0], folded_graph(family)))


def paths_in(rank, graph):
    """Return the list of the paths to the vertices of a neat graph, in the sequence of their numbers."""
    return list(first_ways(moves_along(graph[1]), letters_of(rank), 0).values())
