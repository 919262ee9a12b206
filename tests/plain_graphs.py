"""What the document says of families and their graphs, done as plainly as it is told, for the tests to compare with."""

from random import Random

from tests.plain import LETTERS, OPPOSITES, plain_inverse, plain_reduced, some_words


def some_families(many, rank, seed):
    """Make families, the same ones for the same seed, some with repeated, inverse and joined given words."""
    chance = Random(seed)
    families = []
    for turn in range(many):
        most = chance.choice((2, 4, 6, 8))
        given = some_words(chance.randint(0, 4), rank, most, chance.random())
        if given and len(given) < 4 and turn % 2:
            first = chance.choice(given)
            told = plain_reduced(first + plain_inverse(chance.choice(given)))
            given.append(chance.choice([first, plain_inverse(first), told if len(told) <= 8 else "", "aA"]))
        families.append((rank, tuple(given)))
    return families


def plain_petals(family):
    """Return the number of points, the edges, and the ends of the petals."""
    points, edges, ends = 1, [], []
    for word in family[1]:
        last = 0
        for letter in plain_reduced(word):
            edges.append((last, letter, points) if letter.islower() else (points, letter.lower(), last))
            last, points = points, points + 1
        ends.append(last)
    return points, edges, ends


def plain_identified(family, chance=None):
    """Apply the rules, in the sequence that the chance makes, until none says anything new."""
    points, edges, ends = plain_petals(family)
    block = {point: {point} for point in range(points)}
    pairs = [(one, other) for one in edges for other in edges if one[1] == other[1] and one != other]
    if chance:
        chance.shuffle(pairs)

    def unite(one, other):
        whole = block[one] | block[other]
        for point in whole:
            block[point] = whole

    for end in ends:
        unite(0, end)
    before = None
    while before != len({min(whole) for whole in block.values()}):
        before = len({min(whole) for whole in block.values()})
        for (start, _, end), (other_start, _, other_end) in pairs:
            if other_start in block[start]:
                unite(end, other_end)
            if other_end in block[end]:
                unite(start, other_start)
    return tuple(min(block[point]) for point in range(points))


def step(edges, vertex, letter):
    """Return the vertices to which edges lead from the vertex by the letter."""
    if letter.islower():
        return sorted({end for start, told, end in edges if (start, told) == (vertex, letter)})
    return sorted({start for start, told, end in edges if (end, told) == (vertex, OPPOSITES[letter])})


def plain_numbered(rank, edges, first=0):
    """Number the vertices as they are found from the first one on."""
    found = [first]
    for vertex in found:
        for letter in LETTERS[:2 * rank]:
            found += [other for other in step(edges, vertex, letter) if other not in found]
    renamed = {(found.index(start), letter, found.index(end)) for start, letter, end in edges}
    return len(found), tuple(sorted(renamed))


def plain_graph(family):
    """Return the graph of the family."""
    least = plain_identified(family)
    edges = {(least[start], letter, least[end]) for start, letter, end in plain_petals(family)[1]}
    return plain_numbered(family[0], edges)


def plain_walk(graph, start, word):
    """Walk a word as it is, or return None."""
    vertex = start
    for letter in word:
        goals = step(graph[1], vertex, letter)
        if not goals:
            return None
        assert len(goals) == 1, "the graph is not folded"
        vertex = goals[0]
    return vertex


def loops_of(rank, graph):
    """Return words that make the graph: one for each edge, to it from 0, along it, and back to 0."""
    ways = {0: ""}
    while len(ways) < graph[0]:
        for vertex in list(ways):
            for letter in LETTERS[:2 * rank]:
                for goal in step(graph[1], vertex, letter):
                    ways.setdefault(goal, ways[vertex] + letter)
    words = [plain_reduced(ways[start] + letter + plain_inverse(ways[end])) for start, letter, end in graph[1]]
    return tuple(word for word in words if word)
