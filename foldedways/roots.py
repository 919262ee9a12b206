"""Cores, roots, words that commute, and words that turn words into others."""

from foldedways.checks import HIGHEST_RANK, check_word
from foldedways.letters import backwards, folded, length_order, opposite


def core(word):
    """Return the pair of the outer part and the core of the reduced form."""
    check_word(word, HIGHEST_RANK, "word")
    return parts_of(folded(word))


def parts_of(whole):
    """Return the pair of the outer part and the core of a reduced word."""
    cut = 0
    # No two letters in the middle cancel, so this ends before it has used up the word.
    while len(whole) - 2 * cut > 1 and whole[cut] == opposite(whole[-1 - cut]):
        cut += 1
    return whole[:cut], whole[cut:len(whole) - cut]


def root(word):
    """Return the pair of the root and the greatest power of the word."""
    check_word(word, HIGHEST_RANK, "word")
    return root_of(folded(word))


def root_of(whole):
    """Return the pair of the root and the greatest power of a reduced word."""
    outer, middle = parts_of(whole)
    # The empty core has the size 1, too, so the empty word gets the empty root and the power 0.
    size = period_of(middle)
    return outer + middle[:size] + backwards(outer), len(middle) // size


def period_of(middle):
    """Return the least number of letters, from 1 on, that, repeated, make the whole of a core."""
    size = 1
    while middle[:size] * (len(middle) // size) != middle:
        size += 1
    return size


def commute(first, second):
    """Return True if the two words commute, otherwise False."""
    check_word(first, HIGHEST_RANK, "first")
    check_word(second, HIGHEST_RANK, "second")
    return folded(first + second) == folded(second + first)


def common_root(first, second):
    """Return a root and two numbers with which both words are its powers, or None if they do not commute."""
    if not commute(first, second):
        return None
    left, many_left = root_of(folded(first))
    right, many_right = root_of(folded(second))
    if many_left == 0:
        return right, 0, many_right
    # Words that commute have equal or inverse roots, unless one is empty.
    if left != right:
        many_right = -many_right
    return left, many_left, many_right


def turned_form(word):
    """Return the turned form of the word."""
    check_word(word, HIGHEST_RANK, "word")
    _, middle = parts_of(folded(word))
    return min([turned(middle, many) for many in range(len(middle))], key=length_order, default="")


def turned(middle, many):
    """Return the core with so many letters of its beginning put behind the others."""
    return middle[many:] + middle[:many]


def turning_word(first, second):
    """Return the first word, in order by length, that turns the first word into the second one, or None."""
    check_word(first, HIGHEST_RANK, "first")
    check_word(second, HIGHEST_RANK, "second")
    outer, middle = parts_of(folded(first))
    outer_goal, goal = parts_of(folded(second))
    base = middle[:period_of(middle)]
    for many in range(len(base)):
        if turned(middle, many) == goal:
            # Words that turn the one into the other differ by a power of the root. Going round
            # further than to the goal, forwards or backwards, only makes them longer.
            ways = [base[:many], backwards(base[many:])]
            return min([folded(outer + way + backwards(outer_goal)) for way in ways], key=length_order)
    # Only empty cores can still be equal here.
    return "" if middle == goal else None
