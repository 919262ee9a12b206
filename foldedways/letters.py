"""Letters, and words of any length. Nothing is checked here."""

LETTERS = "aAbBcC"
SMALL_LETTERS = "abc"


def letters_of(rank):
    """Return the letters of the rank, in their order."""
    return LETTERS[:2 * rank]


def small_letters_of(rank):
    """Return the small letters of the rank, in their order."""
    return SMALL_LETTERS[:rank]


def opposite(letter):
    """Return the opposite letter."""
    return letter.swapcase()


def folded(word):
    """Return the reduced form of the word."""
    kept = []
    # All opposite letters at once: derivations make words of many thousand letters.
    for letter, other in zip(word, word.swapcase()):
        if kept and kept[-1] == other:
            kept.pop()
        else:
            kept.append(letter)
    return "".join(kept)


def backwards(word):
    """Return the inverse of the word, spelled out."""
    return word[::-1].swapcase()


def length_order(word):
    """Return a key by which words are sorted in order by length."""
    return len(word), tuple([LETTERS.index(letter) for letter in word])
