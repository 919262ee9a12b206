"""Actions: letters that exchange points."""

from foldedways.checks import HIGHEST_RANK, check_integer, check_word, is_integer, is_tuple
from foldedways.errors import BadValue
from foldedways.letters import SMALL_LETTERS, letters_of
from foldedways.moves import first_ways, follow, moves_along

MOST_POINTS = 60


def is_action(value, rank):
    """Return True if the value is an action of the rank, otherwise False."""
    if not is_tuple(value, rank):
        return False
    if not all([isinstance(row, tuple) for row in value]):
        return False
    points = len(value[0])
    return 1 <= points <= MOST_POINTS and all([is_permutation(row, points) for row in value])


def is_permutation(row, points):
    """Return True if the tuple has each point once and nothing else, otherwise False."""
    if not all([is_integer(point, 0, points - 1) for point in row]):
        return False
    return sorted(row) == list(range(points))


def check_action(value, name):
    """Raise BadValue with the name if the value is not an action of a rank from 1 to 3."""
    if not isinstance(value, tuple) or not 1 <= len(value) <= HIGHEST_RANK or not is_action(value, len(value)):
        raise BadValue(name)


def moves_of(action):
    """Return the moves of the action: where each letter takes each point."""
    edges = []
    for letter, row in zip(SMALL_LETTERS, action):
        for point, goal in enumerate(row):
            edges.append((point, letter, goal))
    return moves_along(edges)


def image(action, point, word):
    """Return the point to which the word takes the point."""
    check_action(action, "action")
    check_integer(point, 0, len(action[0]) - 1, "point")
    check_word(word, len(action), "word")
    return follow(moves_of(action), point, word)


def returns(action, word):
    """Return True if the word returns in the action, otherwise False."""
    check_action(action, "action")
    check_word(word, len(action), "word")
    return follow(moves_of(action), 0, word) == 0


def orbit(action):
    """Return the tuple of the points of the orbit, in the order of their first words."""
    check_action(action, "action")
    return tuple(ways_of(action))


def first_words(action):
    """Return the tuple of the first words of the points of the orbit."""
    check_action(action, "action")
    return tuple(ways_of(action).values())


def ways_of(action):
    """Return the points of the orbit, each with its first word, in the order of these words."""
    return first_ways(moves_of(action), letters_of(len(action)), 0)


def restricted(action):
    """Return the action restricted to its orbit."""
    points = orbit(action)
    numbers = {point: number for number, point in enumerate(points)}
    return tuple([tuple([numbers[row[point]] for point in points]) for row in action])


def least_power(action, word):
    """Return the least number, from 1 on, of times that the word, joined, returns in the action."""
    check_action(action, "action")
    check_word(word, len(action), "word")
    return times_to_return(action, word)


def times_to_return(action, word):
    """Return how often at least a word of any length has to be joined, from 1 on, to return in an action."""
    moves = moves_of(action)
    many = 1
    point = follow(moves, 0, word)
    while point != 0:
        many += 1
        point = follow(moves, point, word)
    return many
