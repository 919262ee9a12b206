"""Words: reduced forms, inverses, powers, order by length, and the numbers of reduced words."""

from foldedways.checks import HIGHEST_RANK, MOST_LETTERS, check_integer, check_rank, check_word, is_rank, is_spelled
from foldedways.errors import TooLarge
from foldedways.letters import backwards, folded, length_order, letters_of, opposite

GREATEST_NUMBER = 20
GREATEST_INDEX = 1000000


def is_word(value, rank):
    """Return True if the value is a word of the rank, otherwise False."""
    return is_rank(rank) and is_spelled(value, rank, MOST_LETTERS)


def reduced(word):
    """Return the reduced form of the word."""
    check_word(word, HIGHEST_RANK, "word")
    return folded(word)


def inverse(word):
    """Return the inverse of the word, spelled out."""
    check_word(word, HIGHEST_RANK, "word")
    return backwards(word)


def joined(first, second):
    """Return the reduced form of both words, joined."""
    check_two_words(first, second)
    return folded(first + second)


def cancelled(first, second):
    """Return how many letters of each reduced form cancel if they are joined."""
    check_two_words(first, second)
    left = folded(first)
    right = folded(second)
    return (len(left) + len(right) - len(folded(left + right))) // 2


def power(word, number):
    """Return the reduced form of the power of the word."""
    check_word(word, HIGHEST_RANK, "word")
    check_integer(number, -GREATEST_NUMBER, GREATEST_NUMBER, "number")
    if number < 0:
        return folded(backwards(word) * -number)
    return folded(word * number)


def compare(first, second):
    """Return -1, 0 or 1, as the first word comes before the second one, is equal, or comes behind it."""
    check_two_words(first, second)
    left = length_order(first)
    right = length_order(second)
    if left == right:
        return 0
    return -1 if left < right else 1


def check_two_words(first, second):
    """Raise BadValue if one of the two is not a word of the rank 3."""
    check_word(first, HIGHEST_RANK, "first")
    check_word(second, HIGHEST_RANK, "second")


def count_reduced(rank, length):
    """Return the number of the reduced words of the rank with so many letters."""
    check_rank(rank)
    check_integer(length, 0, MOST_LETTERS, "length")
    return how_many(rank, length)


def how_many(rank, length):
    """Return the number of the reduced words with so many letters."""
    if length == 0:
        return 1
    many = 2 * rank
    for _ in range(length - 1):
        many = many * (2 * rank - 1)
    return many


def nth_reduced(rank, index):
    """Return the reduced word of the rank with the index."""
    check_rank(rank)
    check_integer(index, 0, GREATEST_INDEX, "index")
    length = 0
    rest = index
    while length <= MOST_LETTERS and rest >= how_many(rank, length):
        rest -= how_many(rank, length)
        length += 1
    if length > MOST_LETTERS:
        raise TooLarge("index")
    return nth_of_length(rank, length, rest)


def nth_of_length(rank, length, index):
    """Return the reduced word with the index among those with so many letters."""
    word = ""
    rest = index
    alike = how_many(rank, length)
    for _ in range(length):
        choices = letters_behind(rank, word)
        # Behind each choice stand equally many endings.
        alike = alike // len(choices)
        word += choices[rest // alike]
        rest = rest % alike
    return word


def index_of_reduced(rank, word):
    """Return the index of the reduced form of the word."""
    check_rank(rank)
    check_word(word, rank, "word")
    whole = folded(word)
    index = sum([how_many(rank, shorter) for shorter in range(len(whole))])
    alike = how_many(rank, len(whole))
    for at, letter in enumerate(whole):
        choices = letters_behind(rank, whole[:at])
        alike = alike // len(choices)
        index += choices.index(letter) * alike
    return index


def letters_behind(rank, word):
    """Return the letters that can follow the reduced word in a reduced word, in their order."""
    return "".join([letter for letter in letters_of(rank) if word[-1:] != opposite(letter)])
