"""Words that tell two actions apart."""

from foldedways.actions import check_action, is_action, moves_of
from foldedways.checks import check_word
from foldedways.errors import BadValue
from foldedways.letters import letters_of
from foldedways.moves import first_ways, follow


def telling_word(first, second):
    """Return the first word, in order by length, that tells the two actions apart, or None."""
    check_two_actions(first, second)
    ways = first_ways(moves_in_both(first, second), letters_of(len(first)), (0, 0))
    for left, right in ways:
        if (left == 0) != (right == 0):
            return ways[(left, right)]
    return None


def moves_in_both(first, second):
    """Return where each letter takes each pair of a point of the one action and one of the other."""
    left = moves_of(first)
    right = moves_of(second)
    return {
        ((point, beside), letter): (left[(point, letter)], right[(beside, letter)])
        for letter in letters_of(len(first))
        for point in range(len(first[0]))
        for beside in range(len(second[0]))
    }


def tells_apart(first, second, word):
    """Return True if the word tells the two actions apart, otherwise False."""
    check_two_actions(first, second)
    check_word(word, len(first), "word")
    return (follow(moves_of(first), 0, word) == 0) != (follow(moves_of(second), 0, word) == 0)


def check_two_actions(first, second):
    """Raise BadValue if the first one is not an action, or the second one not an action of the same rank."""
    check_action(first, "first")
    if not is_action(second, len(first)):
        raise BadValue("second")
