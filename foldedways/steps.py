"""Steps of derivations, and the factors and pairs in them, which end with a sign. Nothing is checked here."""

from foldedways.letters import backwards, folded


def signed(word, sign):
    """Return the word, or with the sign -1 its inverse."""
    return word if sign == 1 else backwards(word)


def product_of(words, pairs):
    """Return the reduced form of the words with these numbers and signs, joined in their sequence."""
    return folded("".join([signed(words[number], sign) for number, sign in pairs]))


def value_of_factors(given, steps, factors):
    """Return the reduced form of the values of the factors, joined in their sequence."""
    words = {"given": given, "step": [word for word, _ in steps]}
    return folded("".join([signed(words[kind][number], sign) for kind, number, sign in factors]))


def turned(pairs):
    """Return the factors or pairs in the opposite order and with the opposite signs."""
    return [pair[:-1] + (-pair[-1],) for pair in pairs[::-1]]


def without_opposites(pairs):
    """Return the factors or pairs without neighbours that differ in their signs alone, again and again."""
    kept = []
    for pair in pairs:
        if kept and kept[-1][:-1] == pair[:-1] and kept[-1][-1] != pair[-1]:
            kept.pop()
        else:
            kept.append(pair)
    return kept


def renumbered(steps, numbers):
    """Return the list of the steps, with other numbers for the steps that they name."""
    return [(word, tuple([renamed(factor, numbers) for factor in factors])) for word, factors in steps]


def renamed(factor, numbers):
    """Return the factor, with another number if it names a step."""
    kind, number, sign = factor
    return factor if kind == "given" else (kind, numbers[number], sign)


def needed_steps(steps):
    """Return the tuple of the needed steps, with numbers to match."""
    needed = {len(steps) - 1: True}
    for at in reversed(range(len(steps))):
        if at in needed:
            for kind, number, _ in steps[at][1]:
                if kind == "step":
                    needed[number] = True
    kept = sorted(needed)
    numbers = {number: at for at, number in enumerate(kept)}
    return tuple(renumbered([steps[number] for number in kept], numbers))


def pairs_of(factors, expansions):
    """Return the pairs of the factors, when each step that is named is replaced by its expansion."""
    pairs = []
    for kind, number, sign in factors:
        made = [(number, 1)] if kind == "given" else expansions[number]
        pairs += made if sign == 1 else turned(made)
    return pairs
