"""What the document says of words, done in the plainest way, for the tests to compare with."""

from itertools import product
from random import Random

LETTERS = "aAbBcC"
OPPOSITES = dict(zip("aAbBcC", "AaBbCc"))


def can_cancel(word, at):
    """Tell if the letters at this place and behind it are opposite."""
    return at + 1 < len(word) and word[at + 1] == OPPOSITES[word[at]]


def plain_reduced(word, choose=min):
    """Leave out opposite neighbours again and again, each time those that are chosen."""
    places = [at for at in range(len(word)) if can_cancel(word, at)]
    while places:
        at = choose(places)
        word = word[:at] + word[at + 2:]
        places = [at for at in range(len(word)) if can_cancel(word, at)]
    return word


def is_reduced(word):
    """Tell if no letter stands beside its opposite."""
    return not any(can_cancel(word, at) for at in range(len(word)))


def plain_inverse(word):
    """Return the opposite letters in the opposite order."""
    return "".join(OPPOSITES[letter] for letter in reversed(word))


def plain_power(word, number):
    """Join the word, or its inverse, letter by letter, so many times."""
    whole = ""
    for _ in range(abs(number)):
        whole = plain_reduced(whole + (word if number > 0 else plain_inverse(word)))
    return whole


def by_length(word):
    """Return a key for the order by length."""
    return len(word), [LETTERS.index(letter) for letter in word]


def all_words(rank, most):
    """List all words with at most so many letters in order by length."""
    letters = LETTERS[:2 * rank]
    return ["".join(word) for length in range(most + 1) for word in product(letters, repeat=length)]


def all_reduced(rank, most):
    """List all reduced words with at most so many letters in order by length."""
    rows = [[""]]
    for _ in range(most):
        letters = LETTERS[:2 * rank]
        rows.append([word + letter for word in rows[-1] for letter in letters if is_reduced(word[-1:] + letter)])
    return [word for row in rows for word in row]


def some_words(many, rank, most, seed):
    """Make words, the same ones for the same seed, in which many letters cancel."""
    chance = Random(seed)
    words = []
    for _ in range(many):
        word = ""
        for _ in range(chance.randint(0, most)):
            if word and chance.random() < 0.35:
                word += OPPOSITES[word[chance.randint(max(0, len(word) - 3), len(word) - 1)]]
            else:
                word += chance.choice(LETTERS[:2 * rank])
        words.append(word)
    return words
