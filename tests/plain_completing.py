"""What the document says of attached words and completed graphs, done letter by letter, for the tests."""

from tests.plain import LETTERS, plain_inverse, plain_reduced
from tests.plain_actions import plain_returns
from tests.plain_graphs import plain_graph, plain_walk, step


def plain_attached(graph, word):
    """Attach a word to a graph; return the graph with the word, and the end."""
    points, edges = graph[0], list(graph[1])
    vertex = 0
    for letter in plain_reduced(word):
        goals = step(edges, vertex, letter)
        if not goals:
            edges.append((vertex, letter, points) if letter.islower() else (points, letter.lower(), vertex))
            goals, points = [points], points + 1
        vertex = goals[0]
    return (points, tuple(sorted(edges))), vertex


def plain_completed(rank, graph):
    """Complete a graph to an action."""
    rows = []
    for letter in "abc"[:rank]:
        row = [None] * graph[0]
        for start, told, end in graph[1]:
            if told == letter:
                row[start] = end
        for point in range(graph[0]):
            if row[point] is None:
                free = [goal for goal in range(graph[0]) if goal not in row and not entered(graph, letter, goal)]
                row[point] = min(free)
        rows.append(tuple(row))
    return tuple(rows)


def entered(graph, letter, vertex):
    """Tell if an edge of the letter enters the vertex."""
    return any((told, end) == (letter, vertex) for _, told, end in graph[1])


def plain_is_against(family, words, action):
    """Judge an action against some words, letter by letter."""
    rank, given = family
    points = len(action[0])
    if len(action) != rank or any(sorted(row) != list(range(points)) for row in action) or not 1 <= points <= 60:
        return False
    return all(plain_returns(action, word) for word in given) and not any(plain_returns(action, word) for word in words)


def plain_paths(rank, graph):
    """Return the first words, in order by length, that lead to the vertices."""
    ways = {0: ""}
    waiting = [0]
    for vertex in waiting:
        for letter in LETTERS[:2 * rank]:
            for goal in step(graph[1], vertex, letter):
                if goal not in ways:
                    ways[goal] = ways[vertex] + letter
                    waiting.append(goal)
    return [ways[vertex] for vertex in range(graph[0])]


def plain_further(family):
    """Return the further words of a family."""
    rank, graph = family[0], plain_graph(family)
    action, ways = plain_completed(rank, graph), plain_paths(rank, graph)
    words = []
    for vertex in range(graph[0]):
        for letter, row in zip("abc", action):
            if not step(graph[1], vertex, letter):
                words.append(ways[vertex] + letter + plain_inverse(ways[row[vertex]]))
    return tuple(words)


def plain_belongs(family, word):
    """Tell if the word belongs, by a plain walk in the plain graph."""
    return plain_walk(plain_graph(family), 0, plain_reduced(word)) == 0
