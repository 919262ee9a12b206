"""Where letters lead from place to place: in actions, in graphs, and in two at a time.

A table of moves has a key for each place and each letter that leads on from
there. Places are integers or pairs of integers. Nothing is checked here.
"""

from foldedways.letters import opposite


def moves_along(edges):
    """Return the moves along edges (start, letter, end), and backwards with the opposite letters."""
    moves = {}
    for start, letter, end in edges:
        moves[(start, letter)] = end
        moves[(end, opposite(letter))] = start
    return moves


def follow(moves, start, word):
    """Return the place to which the word leads from the start, or None if some letter leads nowhere."""
    place = start
    for letter in word:
        if (place, letter) not in moves:
            return None
        place = moves[(place, letter)]
    return place


def first_ways(moves, letters, start):
    """Return the places that can be reached, each with its first word, in the order of these words."""
    ways = {start: ""}
    waiting = [start]
    at = 0
    # Places wait in the order of their first words, so the first way that is found is the first word.
    while at < len(waiting):
        place = waiting[at]
        at += 1
        for letter in letters:
            goal = moves.get((place, letter))
            if goal is not None and goal not in ways:
                ways[goal] = ways[place] + letter
                waiting.append(goal)
    return ways
