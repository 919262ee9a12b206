"""Derivations: how words are made of given words, step by step."""

from foldedways.checks import check_word, is_integer, is_sign, is_spelled, is_tuple
from foldedways.errors import BadValue, TooLarge
from foldedways.folding import check_family
from foldedways.letters import folded
from foldedways.linking import derived
from foldedways.steps import needed_steps, pairs_of, renumbered, value_of_factors, without_opposites

MOST_STEPS = 100
MOST_STEP_LETTERS = 100
MOST_FACTORS = 2000
MOST_PAIRS = 1000


def accepts_derivation(family, word, value):
    """Return True if the value is a derivation that is accepted for the word, otherwise False."""
    check_family(family)
    check_word(word, family[0], "word")
    return shows_member(family, word, value)


def shows_member(family, word, value):
    """Return True if the value is a derivation that is accepted for a word of any length, otherwise False."""
    return is_derivation(family, value) and value[-1][0] == folded(word)


def is_derivation(family, value):
    """Return True if the value is a derivation for the family all of whose steps hold, otherwise False."""
    if not isinstance(value, tuple) or not 1 <= len(value) <= MOST_STEPS:
        return False
    if not all([is_step(family, at, step) for at, step in enumerate(value)]):
        return False
    return all([word == value_of_factors(family[1], value, factors) for word, factors in value])


def is_step(family, place, value):
    """Return True if the value is a step that can stand at this place, otherwise False."""
    if not is_tuple(value, 2):
        return False
    word, factors = value
    # That the word is reduced shows when it is compared with the value of its factors.
    if not is_spelled(word, family[0], MOST_STEP_LETTERS):
        return False
    if not isinstance(factors, tuple) or len(factors) > MOST_FACTORS:
        return False
    return all([is_factor(family, place, factor) for factor in factors])


def is_factor(family, place, value):
    """Return True if the value is a factor that can stand in the step at this place, otherwise False."""
    if not is_tuple(value, 3):
        return False
    kind, number, sign = value
    if not isinstance(kind, str) or kind not in ("given", "step"):
        return False
    many = len(family[1]) if kind == "given" else place
    return is_integer(number, 0, many - 1) and is_sign(sign)


def check_derivation(family, value, name):
    """Raise BadValue with the name if the value is not a derivation for the family all of whose steps hold."""
    if not is_derivation(family, value):
        raise BadValue(name)


def derivation_for(family, word):
    """Return an accepted derivation for the word, or None if it does not belong to the family."""
    check_family(family)
    check_word(word, family[0], "word")
    return derived(family[1], folded(word))


def expansion(family, value):
    """Return the given words and signs of which the last step of the derivation is made."""
    check_family(family)
    check_derivation(family, value, "value")
    expansions = []
    # No step that is needed makes more pairs than the last one.
    for _, factors in needed_steps(value):
        pairs = pairs_of(factors, expansions)
        if len(pairs) > MOST_PAIRS:
            raise TooLarge("expansion")
        expansions.append(pairs)
    return tuple(without_opposites(expansions[-1]))


def trimmed(family, value):
    """Return the derivation with its needed steps alone."""
    check_family(family)
    check_derivation(family, value, "value")
    return needed_steps(value)


def joined(family, first, second):
    """Return the derivation with the steps of both and a further one that joins their last words."""
    check_family(family)
    check_derivation(family, first, "first")
    check_derivation(family, second, "second")
    numbers = [len(first) + at for at in range(len(second))]
    steps = first + tuple(renumbered(second, numbers))
    return with_step(family, steps, (("step", len(first) - 1, 1), ("step", len(steps) - 1, 1)))


def inverted(family, value):
    """Return the derivation with a further step that inverts its last word."""
    check_family(family)
    check_derivation(family, value, "value")
    return with_step(family, value, (("step", len(value) - 1, -1),))


def with_step(family, steps, factors):
    """Return the derivation with a further step of these factors."""
    word = value_of_factors(family[1], steps, factors)
    if len(steps) >= MOST_STEPS or len(word) > MOST_STEP_LETTERS:
        raise TooLarge("steps")
    return steps + ((word, factors),)
