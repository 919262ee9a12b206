"""What the document says of two families and of conjugates, done as plainly as it is told, for the tests."""

from collections import Counter
from functools import lru_cache
from random import Random

from tests.plain import LETTERS, OPPOSITES, plain_inverse, plain_reduced, some_words
from tests.plain_completing import plain_attached
from tests.plain_graphs import plain_graph, plain_numbered, some_families, step

graph_told = lru_cache(maxsize=None)(plain_graph)


@lru_cache(maxsize=None)
def table_of(graph):
    """Return where each letter leads from each vertex, and nothing where it leads nowhere."""
    table = {}
    for start, letter, end in graph[1]:
        table[(start, letter)] = end
        table[(end, OPPOSITES[letter])] = start
    return table


def walked(graph, word):
    """Walk a reduced word from 0; return the vertex, or None if the walk leaves the graph."""
    table, vertex = table_of(graph), 0
    for letter in word:
        vertex = table.get((vertex, letter))
    return vertex


def in_graph(graph, word):
    """Tell if the reduced form of the word is walked from 0 to 0."""
    return walked(graph, plain_reduced(word)) == 0


def is_member(family, word):
    """Tell if the word belongs to the family."""
    return in_graph(graph_told(family), word)


def plain_pruned(edges, first):
    """Leave out vertices with a single edge end, one after another, but not the first one."""
    edges = set(edges)
    while True:
        ends = Counter(vertex for start, _, end in edges for vertex in (start, end))
        single = [vertex for vertex, many in ends.items() if many == 1 and vertex != first]
        if not single:
            return edges
        edges = {edge for edge in edges if single[0] not in (edge[0], edge[2])}


def plain_common_graph(family, other):
    """Make the graph of the common words, by point 93."""
    rank = family[0]
    left, right = graph_told(family)[1], graph_told(other)[1]
    found, edges = [(0, 0)], set()
    for one, two in found:
        for letter in LETTERS[:2 * rank]:
            for pair in [(goal, beside) for goal in step(left, one, letter) for beside in step(right, two, letter)]:
                if pair not in found:
                    found.append(pair)
                start, end = ((one, two), pair) if letter.islower() else (pair, (one, two))
                edges.add((start, letter.lower(), end))
    return plain_numbered(rank, plain_pruned(edges, (0, 0)), (0, 0))


def plain_both_graph(family, other):
    """Make the graph of both together, by point 95."""
    return graph_told((family[0], family[1] + other[1]))


def plain_conjugate_graph(graph, rank, word):
    """Make the graph of a conjugate of the family of the graph, by point 106."""
    (_, edges), end = plain_attached(graph, word)
    kept = plain_pruned(edges, end)
    reached = [end]
    for vertex in reached:
        for letter in LETTERS[:2 * rank]:
            reached += [goal for goal in step(kept, vertex, letter) if goal not in reached]
    return plain_numbered(rank, [edge for edge in kept if edge[0] in reached], end)


def plain_is_conjugator(family, other, word):
    """Tell if the word is a conjugator: each given word of the one, turned, belongs to the other one."""
    back = plain_inverse(word)
    there = all(is_member(family, word + told + back) for told in other[1])
    return there and all(is_member(other, back + told + word) for told in family[1])


def conjugate_family(family, word):
    """Return a family of which the word is a conjugator, or None if its given words would be too long."""
    given = tuple(plain_reduced(plain_inverse(word) + told + word) for told in family[1])
    return (family[0], given) if all(len(told) <= 8 for told in given) else None


def related(family, chance):
    """Return families that have much to do with the family, by chance: contained, equal, greater or conjugate ones."""
    rank, given = family
    found = []
    if given:
        joined = plain_reduced(chance.choice(given) + plain_inverse(chance.choice(given)))
        equal = (given[::-1], tuple(plain_inverse(word) for word in given), (joined,) + given[1:])
        found += [(rank, given[1:]), (rank, chance.choice(equal[:2 + (len(joined) <= 8)]))]
        found.append((rank, given[1:] + tuple(some_words(1, rank, 8, chance.random()))))
    if len(given) < 4:
        found.append((rank, given + tuple(some_words(1, rank, 6, chance.random()))))
    for word in some_words(3, rank, 3, chance.random()):
        other = conjugate_family(family, word)
        if other is not None:
            found.append(other)
    return found


def long_families(many, rank, seed):
    """Make families of one to three given words of 4 to 8 letters each, the same ones for the same seed."""
    chance = Random(seed)
    families = []
    for _ in range(many):
        given = []
        for _ in range(chance.randint(1, 3)):
            word = ""
            for _ in range(chance.randint(4, 8)):
                word += chance.choice([letter for letter in LETTERS[:2 * rank] if word[-1:] != OPPOSITES[letter]])
            given.append(word)
        families.append((rank, tuple(given)))
    return families


def some_pairs(many, rank, seed):
    """Make pairs of families of the rank, the same ones for the same seed; in many both are related."""
    chance = Random(seed)
    families = some_families(many // 2, rank, seed) + long_families(many // 2, rank, seed)
    pairs = []
    for turn, family in enumerate(families):
        others = related(family, chance)
        pairs.append((family, chance.choice(others) if turn % 3 and others else chance.choice(families)))
    return pairs
