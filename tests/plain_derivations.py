"""What the document says of derivations, done as plainly as it is told, for the tests to compare with."""

from random import Random

from tests.plain import OPPOSITES, is_reduced, plain_inverse


def stack_reduced(word):
    """Return the reduced form, also of words of many letters."""
    kept = []
    for letter in word:
        if kept and kept[-1] == OPPOSITES[letter]:
            kept.pop()
        else:
            kept.append(letter)
    return "".join(kept)


def plain_product(given, steps, factors):
    """Join the values of the factors, one after another."""
    whole = ""
    for kind, number, sign in factors:
        word = given[number] if kind == "given" else steps[number][0]
        whole = stack_reduced(whole + (word if sign == 1 else plain_inverse(word)))
    return whole


def plain_accepts(family, word, value):
    """Judge a value that has the form of a derivation: tuples of strings and integers, each at its place."""
    given = family[1]
    if not 1 <= len(value) <= 100:
        return False
    for at, (told, factors) in enumerate(value):
        if not is_reduced(told) or len(told) > 100 or len(factors) > 2000:
            return False
        for kind, number, sign in factors:
            if kind not in ("given", "step") or sign not in (1, -1):
                return False
            if not 0 <= number < (len(given) if kind == "given" else at):
                return False
        if told != plain_product(given, value, factors):
            return False
    return value[-1][0] == stack_reduced(word)


def plain_pairs(value, at):
    """Replace each step that is named by its factors, down to the given words."""
    pairs = []
    for kind, number, sign in value[at][1]:
        made = [(number, 1)] if kind == "given" else plain_pairs(value, number)
        pairs += made if sign == 1 else [(other, -turn) for other, turn in reversed(made)]
    return pairs


def plain_neighbours(pairs):
    """Leave out neighbours with the same number and opposite signs, again and again."""
    pairs = list(pairs)
    at = 0
    while at + 1 < len(pairs):
        if pairs[at][0] == pairs[at + 1][0] and pairs[at][1] == -pairs[at + 1][1]:
            pairs = pairs[:at] + pairs[at + 2:]
            at = 0
        else:
            at += 1
    return tuple(pairs)


def plain_trimmed(value):
    """Keep the steps that are needed, and count them anew."""
    needed = {len(value) - 1}
    more = needed
    while more:
        more = {number for at in more for kind, number, _ in value[at][1] if kind == "step"} - needed
        needed |= more
    kept = sorted(needed)
    return tuple(
        (value[at][0], tuple(
            (kind, kept.index(number) if kind == "step" else number, sign) for kind, number, sign in value[at][1]))
        for at in kept)


def some_derivations(family, many, seed):
    """Make derivations of 1 to 8 steps, the same ones for the same seed, some with steps that are not needed."""
    chance = Random(seed)
    given, made = family[1], []
    for _ in range(many):
        steps = []
        for at in range(chance.randint(1, 8)):
            factors = []
            for _ in range(chance.randint(0, 4)):
                kind, most = chance.choice((("given", len(given)), ("step", at)))
                if most:
                    factors.append((kind, chance.randrange(most), chance.choice((1, -1))))
            word = plain_product(given, steps, factors)
            if len(word) <= 100:
                steps.append((word, tuple(factors)))
            else:
                steps.append(("", ()))
        made.append(tuple(steps))
    return made
