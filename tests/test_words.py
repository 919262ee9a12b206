"""foldedways.words: points [2] to [6], [8] to [11], [17] to [19]."""

from random import Random
from unittest import TestCase

from foldedways.errors import TooLarge, WaysError
from foldedways.words import (
    cancelled, compare, count_reduced, index_of_reduced, inverse, is_word, joined, nth_reduced, power, reduced)
from tests.plain import (
    LETTERS, all_reduced, all_words, by_length, is_reduced, plain_inverse, plain_power, plain_reduced, some_words)
from tests.wrong import NO_LETTERS, NO_RANKS, NO_STRINGS, check_wrong_arguments, no_integers, no_words

SHORT = all_words(2, 3) + all_words(1, 6) + all_words(3, 2)
CANCELLING = some_words(150, 3, 24, 1) + some_words(60, 2, 24, 2) + some_words(30, 1, 24, 3)
EDGES = ["", "a", "C", "aA", "Aa", "abcABC" * 4, "abcCBA" * 4, "aA" * 12, "a" * 12 + "A" * 12, "a" * 24, "cB" * 12]
WORDS = EDGES + CANCELLING


class IsWord(TestCase):
    def test_words_of_each_rank(self):
        for rank in (1, 2, 3):
            for word in all_words(rank, 3):
                self.assertIs(is_word(word, rank), True)

    def test_unreduced_words(self):
        for word in ("aA", "Aa", "aAaA", "abBA"):
            self.assertIs(is_word(word, 2), True)

    def test_24_and_25_letters(self):
        for rank in (1, 2, 3):
            for letter in LETTERS[:2 * rank]:
                self.assertIs(is_word(letter * 24, rank), True)
                self.assertIs(is_word(letter * 25, rank), False)
            self.assertIs(is_word("aA" * 12, rank), True)
            self.assertIs(is_word("aA" * 12 + "a", rank), False)
            self.assertIs(is_word("aA" * 13, rank), False)

    def test_letters_of_a_higher_rank(self):
        for number, letter in enumerate(LETTERS):
            for rank in (1, 2, 3):
                self.assertIs(is_word(letter, rank), number < 2 * rank)
                self.assertIs(is_word("aA" + letter + "a", rank), number < 2 * rank)

    def test_words_of_a_lower_rank_are_words_of_a_higher_one(self):
        for lower, higher in ((1, 2), (1, 3), (2, 3)):
            for word in some_words(30, lower, 24, lower):
                self.assertIs(is_word(word, lower), True)
                self.assertIs(is_word(word, higher), True)

    def test_values_that_are_no_words(self):
        for rank in (1, 2, 3):
            for value in NO_STRINGS + NO_LETTERS:
                with self.subTest(value=value, rank=rank):
                    self.assertIs(is_word(value, rank), False)

    def test_ranks_that_are_none(self):
        for rank in NO_RANKS:
            for value in ("", "a", "ab", None, 1, "x", ["a"]):
                with self.subTest(value=value, rank=rank):
                    self.assertIs(is_word(value, rank), False)

    def test_nothing_is_modified(self):
        value = ["a", ["b"]]
        is_word(value, value)
        self.assertEqual(value, ["a", ["b"]])


class Reduced(TestCase):
    def test_as_letters_are_left_out(self):
        for word in SHORT + WORDS:
            self.assertEqual(reduced(word), plain_reduced(word))
            self.assertTrue(is_reduced(reduced(word)))

    def test_in_whatever_sequence(self):
        chance = Random(5)
        for word in WORDS:
            for choose in (min, max, chance.choice, chance.choice):
                self.assertEqual(reduced(word), plain_reduced(word, choose))

    def test_all_letters_cancel(self):
        for word in ("", "aA", "Aa", "abBA", "abcCBA" * 4, "aA" * 12, "c" * 12 + "C" * 12):
            self.assertEqual(reduced(word), "")

    def test_nothing_cancels(self):
        for word in ("a", "ab", "aBAb", "abcABC" * 4, "a" * 24, "abAB" * 6):
            self.assertEqual(reduced(word), word)

    def test_again_is_the_same(self):
        for word in WORDS:
            self.assertEqual(reduced(reduced(word)), reduced(word))
            self.assertEqual(reduced(word), reduced(word))


class Inverse(TestCase):
    def test_opposite_letters_in_the_opposite_order(self):
        for word in SHORT + WORDS:
            self.assertEqual(inverse(word), plain_inverse(word))

    def test_spelled_out(self):
        self.assertEqual(inverse("aA"), "aA")
        self.assertEqual(inverse("abBAc"), "CabBA")
        self.assertEqual(inverse("aA" * 12), "aA" * 12)

    def test_of_the_inverse(self):
        for word in WORDS:
            self.assertEqual(inverse(inverse(word)), word)

    def test_of_two_words_joined(self):
        for first, second in zip(CANCELLING, CANCELLING[1:]):
            whole = plain_reduced(plain_inverse(plain_reduced(first + second)))
            self.assertEqual(joined(inverse(second), inverse(first)), whole)


class Joined(TestCase):
    def test_reduced_form_of_both(self):
        for first in SHORT[:60]:
            for second in SHORT[:60]:
                self.assertEqual(joined(first, second), plain_reduced(first + second))
        for first, second in zip(WORDS, reversed(WORDS)):
            self.assertEqual(joined(first, second), plain_reduced(first + second))

    def test_with_the_inverse_and_the_empty_word(self):
        for word in WORDS:
            self.assertEqual(joined(word, plain_inverse(word)), "")
            self.assertEqual(joined(plain_inverse(word), word), "")
            self.assertEqual(joined(word, ""), plain_reduced(word))
            self.assertEqual(joined("", word), plain_reduced(word))

    def test_longer_than_24_letters(self):
        self.assertEqual(joined("a" * 24, "a" * 24), "a" * 48)
        self.assertEqual(joined("abcABC" * 4, "ab" * 12), "abcABC" * 4 + "ab" * 12)
        self.assertEqual(joined("ab" * 12, "BA" * 11 + "cc"), "abcc")

    def test_cancelled(self):
        for first, second in list(zip(WORDS, reversed(WORDS))) + [(x, y) for x in SHORT[:60] for y in SHORT[:60]]:
            left, right = plain_reduced(first), plain_reduced(second)
            many = 0
            while many < min(len(left), len(right)) and right[many] == plain_inverse(left[len(left) - 1 - many]):
                many += 1
            self.assertEqual(cancelled(first, second), many)
            self.assertEqual(len(joined(first, second)), len(left) + len(right) - 2 * many)

    def test_cancelled_counts_the_letters_of_each(self):
        self.assertEqual(cancelled("ab", "BA"), 2)
        self.assertEqual(cancelled("ab", "Bc"), 1)
        self.assertEqual(cancelled("ab", "bA"), 0)
        self.assertEqual(cancelled("aA", "aA"), 0)
        self.assertEqual(cancelled("a" * 24, "A" * 24), 24)
        self.assertEqual(cancelled("abB", "A"), 1)
        self.assertEqual(cancelled("", "abc"), 0)


class Power(TestCase):
    def test_each_number(self):
        for word in EDGES + ["ab", "abA", "abaBA", "aBBA", "abBA"] + CANCELLING[:10]:
            for number in range(-20, 21):
                self.assertEqual(power(word, number), plain_power(word, number))

    def test_edges(self):
        for word in WORDS:
            self.assertEqual(power(word, 0), "")
            self.assertEqual(power(word, 1), plain_reduced(word))
            self.assertEqual(power(word, -1), plain_reduced(plain_inverse(word)))

    def test_longer_than_24_letters(self):
        self.assertEqual(power("a" * 24, 20), "a" * 480)
        self.assertEqual(power("a" * 24, -20), "A" * 480)
        self.assertEqual(power("abcABC" * 4, 20), "abcABC" * 80)
        self.assertEqual(power("abcABC" * 4, -20), "cbaCBA" * 80)


class Compare(TestCase):
    def test_the_order_of_all_short_words(self):
        for words in (all_words(1, 4), all_words(2, 2), all_words(3, 2)):
            for left, first in enumerate(words):
                for right, second in enumerate(words):
                    self.assertEqual(compare(first, second), (left > right) - (left < right))

    def test_long_words(self):
        for first, second in zip(WORDS, reversed(WORDS)):
            left, right = by_length(first), by_length(second)
            self.assertEqual(compare(first, second), (left > right) - (left < right))
            self.assertEqual(compare(second, first), (left < right) - (left > right))
            self.assertEqual(compare(first, first), 0)

    def test_unreduced_words_are_compared_as_they_are(self):
        self.assertEqual(compare("aA", ""), 1)
        self.assertEqual(compare("aA", "b"), 1)
        self.assertEqual(compare("aA", "Aa"), -1)
        self.assertEqual(compare("a" * 23 + "B", "a" * 23 + "b"), 1)
        self.assertEqual(compare("C" * 23, "a" * 24), -1)


class Numbers(TestCase):
    def test_against_a_listing(self):
        for rank, most in ((1, 24), (2, 6), (3, 4)):
            listing = all_reduced(rank, most)
            self.assertEqual(listing, sorted(listing, key=by_length))
            for index, word in enumerate(listing):
                self.assertEqual(nth_reduced(rank, index), word)
                self.assertEqual(index_of_reduced(rank, word), index)
            for length in range(most + 1):
                self.assertEqual(count_reduced(rank, length), len([word for word in listing if len(word) == length]))

    def test_counts(self):
        for rank in (1, 2, 3):
            self.assertEqual(count_reduced(rank, 0), 1)
            for length in range(1, 25):
                self.assertEqual(count_reduced(rank, length), 2 * rank * (2 * rank - 1) ** (length - 1))

    def test_large_indexes(self):
        for rank in (2, 3):
            before = ""
            for index in sorted([*range(2000, 1000001, 7919), *range(999990, 1000001)]):
                word = nth_reduced(rank, index)
                self.assertTrue(is_reduced(word) and is_word(word, rank))
                self.assertEqual(index_of_reduced(rank, word), index)
                self.assertLess(by_length(before), by_length(word))
                before = word

    def test_neighbours_follow_each_other(self):
        words = [nth_reduced(2, index) for index in range(700000, 700200)]
        self.assertEqual(words, sorted(set(words), key=by_length))

    def test_index_of_the_reduced_form(self):
        for rank in (1, 2, 3):
            for word in some_words(60, rank, 24, rank):
                self.assertEqual(index_of_reduced(rank, word), index_of_reduced(rank, plain_reduced(word)))
        self.assertEqual(index_of_reduced(3, "abcCBA" * 4), 0)
        self.assertEqual(index_of_reduced(1, "aA" * 12), 0)

    def test_last_words_with_24_letters(self):
        for rank, last in ((1, "A" * 24), (2, "B" * 24), (3, "C" * 24)):
            many = sum(count_reduced(rank, length) for length in range(25))
            self.assertEqual(index_of_reduced(rank, last), many - 1)
            self.assertEqual(index_of_reduced(rank, "a" * 24), many - count_reduced(rank, 24))

    def test_too_large_for_the_rank_1(self):
        self.assertEqual(nth_reduced(1, 47), "a" * 24)
        self.assertEqual(nth_reduced(1, 48), "A" * 24)
        for index in (49, 50, 51, 100, 999999, 1000000):
            with self.assertRaises(WaysError) as caught:
                nth_reduced(1, index)
            self.assertIs(caught.exception.__class__, TooLarge)
            self.assertEqual(caught.exception.what, "index")

    def test_not_too_large_for_other_ranks(self):
        self.assertEqual(len(nth_reduced(2, 1000000)), 12)
        self.assertEqual(len(nth_reduced(3, 1000000)), 9)


class Kinds(TestCase):
    def test_results(self):
        for word in ("", "aA", "ab"):
            for text in (reduced(word), inverse(word), joined(word, word), power(word, -2), nth_reduced(2, 3)):
                self.assertIs(text.__class__, str)
            numbers = (cancelled(word, word), compare(word, "b"), count_reduced(2, 2), index_of_reduced(2, word))
            for number in numbers:
                self.assertIs(number.__class__, int)


class WrongArguments(TestCase):
    def test_one_word(self):
        for function in (reduced, inverse):
            check_wrong_arguments(self, function, ("word", "aBc", no_words(3)))

    def test_two_words(self):
        for function in (joined, cancelled, compare):
            check_wrong_arguments(self, function, ("first", "aBc", no_words(3)), ("second", "C" * 24, no_words(3)))

    def test_power(self):
        check_wrong_arguments(self, power, ("word", "aBc", no_words(3)), ("number", -3, no_integers(-20, 20)))

    def test_numbers(self):
        check_wrong_arguments(self, count_reduced, ("rank", 3, NO_RANKS), ("length", 24, no_integers(0, 24)))
        check_wrong_arguments(self, nth_reduced, ("rank", 2, NO_RANKS), ("index", 9, no_integers(0, 1000000)))
        check_wrong_arguments(self, nth_reduced, ("rank", 1, NO_RANKS), ("index", 48, no_integers(0, 1000000)))
        for rank in (1, 2, 3):
            check_wrong_arguments(
                self, index_of_reduced, ("rank", rank, NO_RANKS), ("word", "aA" * 12, no_words(rank)))

    def test_words_of_24_letters_and_numbers_at_the_bounds_are_let(self):
        for word in ("abcABC" * 4, "aA" * 12):
            self.assertEqual(reduced(word), plain_reduced(word))
            self.assertEqual(joined(word, word), plain_reduced(word + word))
            self.assertEqual(compare(word, word), 0)
            self.assertEqual(power(word, 20), plain_reduced(word * 20))
            self.assertEqual(power(word, -20), plain_reduced(plain_inverse(word) * 20))
        self.assertEqual(nth_reduced(2, 0), "")
        self.assertEqual(count_reduced(1, 24), 2)
