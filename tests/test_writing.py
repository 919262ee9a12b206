"""foldedways.writing: points [134] to [136]."""

from itertools import groupby
from random import Random
from unittest import TestCase

from foldedways.errors import BadValue
from foldedways.reading import read_action, read_family, read_word
from foldedways.writing import action_text, family_text, word_text
from tests.plain import all_words, some_words
from tests.plain_actions import some_actions
from tests.test_actions import NO_ACTIONS
from tests.test_folding import EDGES, FAMILIES, NO_FAMILIES
from tests.wrong import check_wrong_arguments, no_words

SIXTY = tuple(range(60))


def plain_text(word):
    """Write the runs of equal letters."""
    runs = [(letter, len(list(run))) for letter, run in groupby(word)]
    return "".join(letter + str(many) * (many > 1) for letter, many in runs) or "."


class WordText(TestCase):
    def test_runs(self):
        for rank in (1, 2, 3):
            for word in all_words(rank, 5 - rank) + some_words(200, rank, 24, 134):
                self.assertEqual(word_text(word), plain_text(word))

    def test_by_hand(self):
        for word, text in (("", "."), ("a", "a"), ("aa", "a2"), ("aA", "aA"), ("aaaBabAB", "a3BabAB"), ("a" * 24, "a24"),
                           ("aabbaa", "a2b2a2"), ("AAAc", "A3c"), ("cccccccccc", "c10"), ("abc" * 8, "abc" * 8)):
            self.assertEqual(word_text(word), text)

    def test_read_back(self):
        for rank in (1, 2, 3):
            for word in all_words(rank, 3) + some_words(200, rank, 24, 135):
                self.assertEqual(read_word(rank, word_text(word)), word)
                self.assertEqual(read_word(3, word_text(word)), word)


class FamilyText(TestCase):
    def test_rank_and_given_words(self):
        for rank, given in FAMILIES + EDGES:
            text = f"{rank}:" + " " * bool(given) + ", ".join(plain_text(word) for word in given)
            self.assertEqual(family_text((rank, given)), text)

    def test_by_hand(self):
        for family, text in (((1, ()), "1:"), ((3, ()), "3:"), ((2, ("",)), "2: ."), ((2, ("", "")), "2: ., ."),
                             ((2, ("aa", "abab", "")), "2: a2, abab, ."), ((3, ("C" * 8,)), "3: C8"),
                             ((2, ("aA", "Bb", "aab", "BBBa")), "2: aA, Bb, a2b, B3a")):
            self.assertEqual(family_text(family), text)

    def test_read_back(self):
        for family in FAMILIES + EDGES:
            self.assertEqual(read_family(family_text(family)), family)


class ActionText(TestCase):
    def test_rows_of_images(self):
        for rank in (1, 2, 3):
            for points in (1, 2, 7, 11, 60):
                for action in some_actions(5, rank, points, points):
                    rows = [" ".join(str(image) for image in row) for row in action]
                    self.assertEqual(action_text(action), "; ".join(rows))

    def test_by_hand(self):
        self.assertEqual(action_text(((0,),)), "0")
        self.assertEqual(action_text(((0,), (0,), (0,))), "0; 0; 0")
        self.assertEqual(action_text(((1, 0, 2), (2, 1, 0))), "1 0 2; 2 1 0")

    def test_read_back_if_it_has_at_most_400_characters(self):
        longer = 0
        for rank in (1, 2, 3):
            for points in (1, 2, 5, 20, 40, 50, 60):
                for action in some_actions(6, rank, points, 100 + points):
                    text = action_text(action)
                    if len(text) <= 400:
                        self.assertEqual(read_action(text), action)
                    else:
                        longer += 1
                        with self.assertRaises(BadValue) as caught:
                            read_action(text)
                        self.assertEqual(caught.exception.name, "text")
        self.assertGreater(longer, 10)
        self.assertEqual(len(action_text((SIXTY,) * 3)), 169 * 3 + 4)
        self.assertEqual(read_action(action_text((SIXTY,) * 2)), (SIXTY,) * 2)

    def test_blanks_and_zeros_change_nothing(self):
        chance = Random(136)
        for action in some_actions(20, 2, 12, 136):
            text = action_text(action)
            spaced = text.replace(" ", "  ").replace(";", " ;") + "  "
            padded = " ".join(token if ";" in token else "0" * chance.randint(0, 3) + token for token in text.split())
            self.assertEqual(read_action(spaced), action)
            self.assertEqual(read_action(padded), action)


class Kinds(TestCase):
    def test_strings(self):
        for text in (word_text("ab"), family_text((2, ("ab",))), action_text(((0,),))):
            self.assertIs(text.__class__, str)


class WrongArguments(TestCase):
    def test_word(self):
        for word in ("", "c", "a" * 24, "aA" * 12):
            check_wrong_arguments(self, word_text, ("word", word, no_words(3)))

    def test_family(self):
        for family in EDGES:
            check_wrong_arguments(self, family_text, ("family", family, NO_FAMILIES))

    def test_action(self):
        for action in (((0,),), ((1, 0),) * 2, (SIXTY,) * 3):
            check_wrong_arguments(self, action_text, ("action", action, NO_ACTIONS))
