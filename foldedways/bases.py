"""Bases of families, expressions in them, and choices of given words that make the same family."""

from foldedways.checks import check_word, check_words, is_ascending, is_integer, is_sign, is_tuple
from foldedways.derivations import shows_member
from foldedways.errors import BadValue
from foldedways.folding import check_family
from foldedways.graphs import folded_graph
from foldedways.letters import folded, opposite
from foldedways.linking import derived
from foldedways.moves import follow, moves_along
from foldedways.steps import pairs_of, product_of, without_opposites
from foldedways.trees import count_free_edges, free_edges, free_words

MOST_WORDS = 8
MOST_PAIRS = 100


def basis(family):
    """Return the basis of the family."""
    check_family(family)
    return free_words(family[0], folded_graph(family))


def expression_of(family, word):
    """Return the reduced expression whose value the word means, or None if it does not belong to the family."""
    check_family(family)
    check_word(word, family[0], "word")
    graph = folded_graph(family)
    moves = moves_along(graph[1])
    whole = folded(word)
    if follow(moves, 0, whole) != 0:
        return None
    pairs = pairs_along(free_edges(family[0], graph))
    told = []
    place = 0
    for letter in whole:
        told += pairs.get((place, letter), [])
        place = moves[(place, letter)]
    return tuple(told)


def pairs_along(edges):
    """Return lists of the number and the sign of each edge, by the places and letters where it begins."""
    pairs = {}
    for number, (start, letter, end) in enumerate(edges):
        pairs[(start, letter)] = [(number, 1)]
        pairs[(end, opposite(letter))] = [(number, -1)]
    return pairs


def is_expression(value, many):
    """Return True if the value is an expression, not too long, in so many words, otherwise False."""
    if not isinstance(value, tuple) or len(value) > MOST_PAIRS:
        return False
    return all([is_tuple(pair, 2) and is_integer(pair[0], 0, many - 1) and is_sign(pair[1]) for pair in value])


def value_of(family, expression):
    """Return the value of the expression in the basis of the family."""
    words = basis(family)
    if not is_expression(expression, len(words)):
        raise BadValue("expression")
    return product_of(words, expression)


def makes_same(family, words):
    """Return True if the words, of any number and length, make the same family, otherwise False."""
    return folded_graph((family[0], words)) == folded_graph(family)


def is_choice(family, chosen):
    """Return True if these given words alone make the same family, otherwise False."""
    check_family(family)
    if not is_ascending(chosen, len(family[1])):
        raise BadValue("chosen")
    return makes_same(family, [family[1][number] for number in chosen])


def smallest_choice(family):
    """Return the first one of the choices with the fewest indexes."""
    check_family(family)
    tuples = [()]
    for number in range(len(family[1])):
        tuples = tuples + [chosen + (number,) for chosen in tuples]
    return min([(len(chosen), chosen) for chosen in tuples if is_choice(family, chosen)])[1]


def is_basis(family, words):
    """Return True if the words are a basis of the family, otherwise False."""
    check_family(family)
    check_words(words, family[0], MOST_WORDS, "words")
    return len(words) == count_free_edges(folded_graph(family)) and makes_same(family, words)


def basis_evidence(family, words):
    """Return accepted evidence that the words are a basis of the family, or None if they are none."""
    if not is_basis(family, words):
        return None
    given = family[1]
    derivations = tuple([derived(given, folded(word)) for word in words])
    return derivations, tuple([expression_by(words, folded(word)) for word in given])


def expression_by(words, word):
    """Return the reduced expression of the reduced word in a basis to whose family it belongs."""
    expressions = []
    for _, factors in derived(words, word):
        # Steps that are named again and again would make expressions long of which little is left in the end.
        expressions.append(without_opposites(pairs_of(factors, expressions)))
    return tuple(expressions[-1])


def accepts_basis(family, words, value):
    """Return True if the value is accepted evidence that the words are a basis of the family, otherwise False."""
    check_family(family)
    check_words(words, family[0], MOST_WORDS, "words")
    given = family[1]
    if not is_tuple(value, 2) or len(words) != count_free_edges(folded_graph(family)):
        return False
    derivations, expressions = value
    if not is_tuple(derivations, len(words)) or not is_tuple(expressions, len(given)):
        return False
    if not all([is_expression(expression, len(words)) for expression in expressions]):
        return False
    if not all([product_of(words, pairs) == folded(word) for word, pairs in zip(given, expressions)]):
        return False
    return all([shows_member(family, word, told) for word, told in zip(words, derivations)])
