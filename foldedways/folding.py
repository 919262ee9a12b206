"""Families, their points, and which points are identified."""

from foldedways.checks import is_rank, is_spelled, is_tuple
from foldedways.errors import BadValue
from foldedways.letters import SMALL_LETTERS, folded, opposite

MOST_GIVEN = 4
MOST_GIVEN_LETTERS = 8


def is_family(value):
    """Return True if the value is a family, otherwise False."""
    if not is_tuple(value, 2):
        return False
    rank, given = value
    if not is_rank(rank) or not isinstance(given, tuple) or len(given) > MOST_GIVEN:
        return False
    return all([is_spelled(word, rank, MOST_GIVEN_LETTERS) for word in given])


def check_family(value):
    """Raise BadValue("family") if the value is not a family."""
    if not is_family(value):
        raise BadValue("family")


def check_two_families(family, other):
    """Raise BadValue if the one is not a family, or the other one not a family of the same rank."""
    check_family(family)
    if not is_family(other) or other[0] != family[0]:
        raise BadValue("other")


def identified(family):
    """Return the tuple with the least point with which each point is identified."""
    check_family(family)
    edges, ends = petals_of(family[1])
    return tuple(least_points(edges, ends))


def petals_of(given):
    """Return the edges of the petals of the given words, and the points at which the petals end."""
    edges = []
    ends = []
    points = 1
    for word in given:
        place = 0
        for letter in folded(word):
            edges.append(edge_behind(place, letter, points))
            place = points
            points += 1
        ends.append(place)
    return edges, ends


def edge_behind(place, letter, point):
    """Return the edge along which the letter leads from the place to the point."""
    if letter in SMALL_LETTERS:
        return place, letter, point
    return point, opposite(letter), place


def least_points(edges, ends):
    """Return the list with the least point with which each point is identified."""
    # Each edge stands before exactly one point, and the point 0 has none before it.
    least = list(range(len(edges) + 1))
    for end in ends:
        least = identify(least, 0, end)
    before = []
    while before != least:
        before = least
        least = fold_once(least, edges)
    return least


def fold_once(least, edges):
    """Return the least points when edges with equal letters have been compared once, forwards and backwards."""
    leads = {}
    for start, letter, end in edges:
        for place, sign, goal in ((start, letter, end), (end, opposite(letter), start)):
            key = (least[place], sign)
            if key in leads:
                least = identify(least, leads[key], goal)
            else:
                leads[key] = goal
    return least


def identify(least, one, other):
    """Return the least points when the two points, and all identified with them, are identified."""
    low = min(least[one], least[other])
    high = max(least[one], least[other])
    return [low if point == high else point for point in least]
