"""What the document says of bases and expressions, done as plainly as it is told, for the tests to compare with."""

from random import Random

from tests.plain import plain_inverse, plain_reduced
from tests.plain_completing import plain_paths
from tests.plain_graphs import plain_graph, step


def plain_free_edges(rank, graph):
    """Return the edges that are not in the tree, by point 71."""
    ways = plain_paths(rank, graph)
    tree = []
    for path in ways[1:]:
        last, before = path[-1], ways.index(path[:-1])
        vertex = ways.index(path)
        tree.append((before, last, vertex) if last.islower() else (vertex, last.lower(), before))
    return [edge for edge in graph[1] if edge not in tree]


def plain_free_words(rank, graph):
    """Return the words along the free edges, by point 72."""
    ways = plain_paths(rank, graph)
    return tuple(
        ways[start] + letter + plain_inverse(ways[end]) for start, letter, end in plain_free_edges(rank, graph))


def plain_basis(family):
    """Return the basis of the family."""
    return plain_free_words(family[0], plain_graph(family))


def plain_expression(family, word):
    """Return the free edges along which the word goes, or None."""
    rank, graph = family[0], plain_graph(family)
    free = plain_free_edges(rank, graph)
    vertex, pairs = 0, []
    for letter in plain_reduced(word):
        goals = step(graph[1], vertex, letter)
        if not goals:
            return None
        forwards, backwards = (vertex, letter, goals[0]), (goals[0], letter.lower(), vertex)
        if letter.islower() and forwards in free:
            pairs.append((free.index(forwards), 1))
        elif letter.isupper() and backwards in free:
            pairs.append((free.index(backwards), -1))
        vertex = goals[0]
    return tuple(pairs) if vertex == 0 else None


def plain_value(words, pairs):
    """Join the words with the numbers and signs of the pairs."""
    whole = ""
    for number, sign in pairs:
        whole = plain_reduced(whole + (words[number] if sign == 1 else plain_inverse(words[number])))
    return whole


def some_expressions(many_words, many, most, seed):
    """Make expressions, the same ones for the same seed, reduced or not."""
    chance = Random(seed)
    made = [()]
    for _ in range(many if many_words else 0):
        pairs = [(chance.randrange(many_words), chance.choice((1, -1))) for _ in range(chance.randint(0, most))]
        made.append(tuple(pairs))
    return made


def changed_bases(words, many, seed):
    """Make bases of the same family: in another sequence, inverted, and multiplied by one another."""
    chance = Random(seed)
    made = [tuple(words)]
    for _ in range(many):
        told = list(chance.choice(made[-3:]))
        turn = chance.randrange(3)
        if turn == 0:
            chance.shuffle(told)
        elif turn == 1 and told:
            at = chance.randrange(len(told))
            told[at] = plain_inverse(told[at])
        elif len(told) > 1:
            at, other = chance.sample(range(len(told)), 2)
            told[at] = plain_reduced(told[at] + chance.choice((told[other], plain_inverse(told[other]))))
        if all(len(word) <= 24 for word in told):
            made.append(tuple(told))
    return made
