"""The members of a family, counted in order by length, and least powers of words."""

from foldedways.actions import times_to_return
from foldedways.checks import MOST_LETTERS, check_integer, check_word, is_tuple
from foldedways.completing import full_action, keeps
from foldedways.counting import START, index_in, member_with, members_in, states_behind, tables_for, tables_up_to
from foldedways.derivations import MOST_STEP_LETTERS, shows_member
from foldedways.errors import TooLarge
from foldedways.folding import check_family
from foldedways.graphs import belongs, folded_graph
from foldedways.letters import folded
from foldedways.linking import derived
from foldedways.moves import follow, moves_along

GREATEST_INDEX = 199
MOST_MEMBERS = 50
GREATEST_POWER = 60


def states_of(family):
    """Return the states of the graph of the family, each with those behind it."""
    return states_behind(family[0], folded_graph(family))


def count_members(family, length):
    """Return the number of the members with so many letters."""
    check_family(family)
    check_integer(length, 0, MOST_LETTERS, "length")
    return tables_up_to(states_of(family), length)[-1][START]


def count_up_to(family, length):
    """Return the number of the members with at most so many letters."""
    check_family(family)
    check_integer(length, 0, MOST_LETTERS, "length")
    return members_in(tables_up_to(states_of(family), length))


def nth_member(family, index):
    """Return the member with the index, or None if there are not so many."""
    check_family(family)
    check_integer(index, 0, GREATEST_INDEX, "index")
    behind = states_of(family)
    tables = tables_for(behind, index + 1)
    return member_with(behind, tables, index) if index < members_in(tables) else None


def index_of_member(family, word):
    """Return the index of the reduced form of the word, or None if it does not belong to the family."""
    if not belongs(family, word):
        return None
    behind = states_of(family)
    whole = folded(word)
    return index_in(behind, tables_up_to(behind, len(whole)), whole)


def first_members(family, many):
    """Return the list of the first members, so many, or fewer if there are not so many."""
    check_family(family)
    check_integer(many, 0, MOST_MEMBERS, "many")
    behind = states_of(family)
    tables = tables_for(behind, many)
    return [member_with(behind, tables, index) for index in range(min(many, members_in(tables)))]


def least_power(family, word):
    """Return the least power of the word, or None if there is none."""
    check_family(family)
    check_word(word, family[0], "word")
    vertices, edges = folded_graph(family)
    moves = moves_along(edges)
    for many in range(1, vertices + 1):
        if follow(moves, 0, folded(word * many)) == 0:
            return many
    return None


def power_evidence(family, word):
    """Return evidence for the least power of the word, or None if there is none."""
    many = least_power(family, word)
    if many is None:
        return None
    power = folded(word * many)
    if len(power) > MOST_STEP_LETTERS:
        raise TooLarge("word")
    return derived(family[1], power), full_action(family)


def accepts_power(family, word, many, value):
    """Return True if the value is accepted evidence that this is the least power of the word, otherwise False."""
    check_family(family)
    check_word(word, family[0], "word")
    check_integer(many, 1, GREATEST_POWER, "many")
    if not is_tuple(value, 2):
        return False
    derivation, action = value
    if not shows_member(family, word * many, derivation) or not keeps(family, action):
        return False
    return times_to_return(action, word) == many
