"""foldedways.telling: points [26] to [28]."""

from random import Random
from unittest import TestCase

from foldedways.actions import orbit, restricted
from foldedways.telling import telling_word, tells_apart
from tests.plain import all_reduced, all_words, is_reduced, some_words
from tests.plain_actions import chain, cycle, plain_returns, renumbered, some_actions
from tests.test_actions import NO_ACTIONS, SIXTY
from tests.wrong import check_wrong_arguments, no_words

RANKS = {1: all_words(1, 8), 2: all_words(2, 6), 3: all_words(3, 4)}


def plain_telling_word(first, second):
    """Try all words with at most as many letters as point 26 tells, in order by length."""
    most = len(orbit(first)) + len(orbit(second)) - 2
    for word in RANKS[len(first)]:
        if len(word) <= most and plain_returns(first, word) != plain_returns(second, word):
            return word
    return None


def pairs_of_actions():
    """Make pairs of actions of the same rank, on equally many points or not."""
    pairs = []
    for rank, most in ((1, 5), (2, 4), (3, 3)):
        actions = [action for points in range(1, most + 1) for action in some_actions(4, rank, points, 30 + points)]
        pairs += [(first, second) for first in actions for second in actions]
    return pairs


class TellingWord(TestCase):
    def test_first_word_by_a_search(self):
        for first, second in pairs_of_actions():
            self.assertEqual(telling_word(first, second), plain_telling_word(first, second))

    def test_same_if_exchanged(self):
        for first, second in pairs_of_actions():
            self.assertEqual(telling_word(first, second), telling_word(second, first))

    def test_none_exactly_if_the_restrictions_are_equal(self):
        for first, second in pairs_of_actions():
            same = restricted(first) == restricted(second)
            self.assertEqual(telling_word(first, second) is None, same)

    def test_renumbered_points(self):
        chance = Random(31)
        for rank in (1, 2, 3):
            for points in (4, 17, 60):
                for action in some_actions(5, rank, points, points):
                    numbers = list(range(1, points))
                    chance.shuffle(numbers)
                    self.assertIs(telling_word(action, renumbered(action, [0] + numbers)), None)
                    self.assertIs(telling_word(action, restricted(action)), None)
                    self.assertIs(telling_word(action, action), None)

    def test_points_beyond_the_orbits_do_not_count(self):
        self.assertIs(telling_word(((1, 0, 2, 3), (0, 1, 3, 2)), ((1, 0), (0, 1))), None)
        self.assertIs(telling_word(((0,), (0,)), ((0, 2, 1), (0, 1, 2))), None)

    def test_large_actions(self):
        for rank in (1, 2, 3):
            actions = some_actions(6, rank, 60, 33) + some_actions(6, rank, 35, 34)
            for first, second in zip(actions, actions[1:]):
                told = telling_word(first, second)
                self.assertEqual(told, telling_word(second, first))
                self.check_first(first, second, told)

    def check_first(self, first, second, told):
        """Check that the word tells the actions apart, and that no word before it does, if they are few."""
        if told is None:
            self.assertEqual(restricted(first), restricted(second))
            return
        self.assertNotEqual(plain_returns(first, told), plain_returns(second, told))
        self.assertTrue(is_reduced(told))
        self.assertLessEqual(len(told), len(orbit(first)) + len(orbit(second)) - 2)
        if len(told) <= 5:
            for word in all_reduced(len(first), len(told)):
                if word == told:
                    break
                self.assertEqual(plain_returns(first, word), plain_returns(second, word))

    def test_longer_than_24_letters(self):
        self.assertEqual(telling_word(cycle(59), cycle(60)), "a" * 59)
        self.assertEqual(telling_word(cycle(60), cycle(30)), "a" * 30)
        # Up the chains and down again, as far as point 26 lets: the shorter one turns back first.
        self.assertEqual(telling_word(chain(60), chain(59)), "ab" * 58 + "a")


class TellsApart(TestCase):
    def test_letter_by_letter(self):
        for first, second in pairs_of_actions():
            for word in ("", "aA", "a", "A", "aa", "aaa", *some_words(6, len(first), 24, 35)):
                apart = plain_returns(first, word) != plain_returns(second, word)
                self.assertIs(tells_apart(first, second, word), apart)

    def test_telling_words_tell_apart(self):
        for first, second in pairs_of_actions():
            told = telling_word(first, second)
            if told is not None:
                self.assertIs(tells_apart(first, second, told), True)
                self.assertIs(tells_apart(second, first, told), True)
            self.assertIs(tells_apart(first, first, "a"), False)


class WrongArguments(TestCase):
    same = {1: ((0,),), 2: ((1, 0), (0, 1)), 3: (SIXTY, SIXTY[::-1], SIXTY[1:] + (0,))}

    def test_both_functions(self):
        for rank, action in self.same.items():
            others = tuple(self.same[other] for other in self.same if other != rank)
            first, second = ("first", action, NO_ACTIONS), ("second", ((1, 0),) * rank, NO_ACTIONS + others)
            check_wrong_arguments(self, telling_word, first, second)
            for word in ("A", "aA" * 12):
                check_wrong_arguments(self, tells_apart, first, second, ("word", word, no_words(rank)))
