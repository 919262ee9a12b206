"""What the document says of actions, done letter by letter, for the tests to compare with."""

from random import Random

from tests.plain import LETTERS, all_words


def plain_image(action, point, word):
    """Take a point along the letters of a word, one after another."""
    for letter in word:
        row = action["abc".index(letter.lower())]
        point = row[point] if letter.islower() else row.index(point)
    return point


def plain_returns(action, word):
    """Tell if the word takes 0 to 0."""
    return plain_image(action, 0, word) == 0


def plain_first_words(action):
    """Try all words in order by length; return the points and their first words.

    A first word has fewer letters than there are points.
    """
    found = {}
    for word in all_words(len(action), len(action[0]) - 1):
        found.setdefault(plain_image(action, 0, word), word)
    return found


def plain_orbit(action):
    """Return the set of the points to which 0 is taken, letter by letter."""
    found = {0}
    while True:
        more = {plain_image(action, point, letter) for point in found for letter in LETTERS[:2 * len(action)]}
        if more <= found:
            return found
        found |= more


def renumbered(action, numbers):
    """Return the action in which each point has another number: the one at its place."""
    rows = []
    for row in action:
        images = [None] * len(row)
        for point, goal in enumerate(row):
            images[numbers[point]] = numbers[goal]
        rows.append(tuple(images))
    return tuple(rows)


def some_actions(many, rank, points, seed):
    """Make actions, the same ones for the same seed, some with points that are in no orbit."""
    chance = Random(seed)
    actions = []
    for turn in range(many):
        reached = points if turn % 3 else chance.randint(1, points)
        rows = []
        for _ in range(rank):
            inner, outer = list(range(reached)), list(range(reached, points))
            chance.shuffle(inner)
            chance.shuffle(outer)
            rows.append(tuple(inner + outer))
        numbers = list(range(1, points))
        chance.shuffle(numbers)
        actions.append(renumbered(tuple(rows), [0] + numbers))
    return actions


def cycle(points):
    """Return the action of the rank 1 that takes each point to the next one, and the last one to 0."""
    return (tuple([*range(1, points), 0]),)


def chain(points):
    """Return an action of the rank 2 of exchanges, a and b in turn, from each point to the next one."""
    rows = [list(range(points)), list(range(points))]
    for point in range(points - 1):
        row = rows[point % 2]
        row[point], row[point + 1] = point + 1, point
    return tuple(tuple(row) for row in rows)
