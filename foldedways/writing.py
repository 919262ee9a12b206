"""The texts of words, families and actions."""

from foldedways.actions import check_action
from foldedways.checks import HIGHEST_RANK, check_word
from foldedways.folding import check_family


def word_text(word):
    """Return the text of the word."""
    check_word(word, HIGHEST_RANK, "word")
    parts = []
    at = 0
    while at < len(word):
        many = 1
        while word[at + many:at + many + 1] == word[at]:
            many += 1
        parts.append(word[at] if many == 1 else word[at] + str(many))
        at += many
    return "".join(parts) if parts else "."


def family_text(family):
    """Return the text of the family."""
    check_family(family)
    rank, given = family
    if not given:
        return str(rank) + ":"
    return str(rank) + ": " + ", ".join([word_text(word) for word in given])


def action_text(action):
    """Return the text of the action."""
    check_action(action, "action")
    return "; ".join([" ".join([str(point) for point in row]) for row in action])
