"""foldedways.roots: points [8], [12] to [16], [18], [19]."""

from unittest import TestCase

from foldedways.roots import common_root, commute, core, root, turned_form, turning_word
from tests.plain import (
    LETTERS, OPPOSITES, all_reduced, all_words, by_length, is_reduced, plain_inverse, plain_power, plain_reduced,
    some_words)
from tests.wrong import check_wrong_arguments, no_words

EMPTY = ["", "aA", "abBA", "abcCBA" * 4]
LONG = ["a" * 24, "abcABC" * 4, "ab" * 12, "abAB" * 6, "b" * 11 + "aa" + "B" * 11, "c" * 11 + "ab" + "C" * 11]
WORDS = all_words(2, 4) + some_words(150, 3, 24, 11) + some_words(50, 1, 24, 12) + EMPTY + LONG


def ends_turn(word):
    """Tell if the word begins with the opposite of its last letter."""
    return len(word) > 1 and word[0] == OPPOSITES[word[-1]]


def plain_core(word):
    """Try each outer part of the reduced form."""
    whole = plain_reduced(word)
    found = []
    for size in range(len(whole) // 2 + 1):
        outer, middle = whole[:size], whole[size:len(whole) - size]
        if whole == outer + middle + plain_inverse(outer) and not ends_turn(middle) and (middle or not whole):
            found.append((outer, middle))
    return found


def plain_root(word):
    """Try each reduced word, made of the outer part and a beginning of the core, as a root."""
    whole = plain_reduced(word)
    outer, middle = plain_core(word)[0]
    for size in range(1, len(middle) + 1):
        base = outer + middle[:size] + plain_inverse(outer)
        for number in range(1, len(middle) + 1):
            if plain_power(base, number) == whole:
                return base, number
    return "", 0


def plain_turning_word(first, second, candidates):
    """Return the first candidate that turns the first word into the second one."""
    goal = plain_reduced(second)
    for turning in candidates:
        if plain_reduced(plain_inverse(turning) + first + turning) == goal:
            return turning
    return None


def plain_turned_form(word):
    """Return the first turned form of the core."""
    middle = plain_core(word)[0][1]
    return min([middle[at:] + middle[:at] for at in range(len(middle))] or [""], key=by_length)


class Core(TestCase):
    def test_the_only_parts(self):
        for word in WORDS:
            self.assertEqual([core(word)], plain_core(word))

    def test_parts_make_the_word(self):
        for word in WORDS:
            outer, middle = core(word)
            self.assertEqual(outer + middle + plain_inverse(outer), plain_reduced(word))
            self.assertFalse(ends_turn(middle))

    def test_empty_only_if_the_reduced_form_is(self):
        for word in EMPTY:
            self.assertEqual(core(word), ("", ""))
        for word in WORDS:
            self.assertEqual(core(word)[1] == "", plain_reduced(word) == "")

    def test_of_powers(self):
        for word in WORDS:
            outer, middle = core(word)
            for number in (1, 2, 3):
                whole = plain_power(word, number)
                if len(whole) <= 24:
                    self.assertEqual(core(whole), (outer if middle else "", middle * number))

    def test_edges(self):
        self.assertEqual(core("a"), ("", "a"))
        self.assertEqual(core("aa"), ("", "aa"))
        self.assertEqual(core("abA"), ("a", "b"))
        self.assertEqual(core("bbaBB"), ("bb", "a"))
        self.assertEqual(core("a" * 11 + "bb" + "A" * 11), ("a" * 11, "bb"))
        self.assertEqual(core("abAB"), ("", "abAB"))


class Root(TestCase):
    def test_plain_search(self):
        for word in WORDS:
            self.assertEqual(root(word), plain_root(word))

    def test_a_root_is_no_power(self):
        for word in WORDS:
            base, number = root(word)
            self.assertTrue(is_reduced(base))
            self.assertEqual(plain_power(base, number), plain_reduced(word))
            if number:
                self.assertEqual(root(base), (base, 1))

    def test_against_all_short_words(self):
        greatest = {}
        # Powers with greater numbers are listed later, and so they stay.
        for number in range(1, 7):
            for base in all_reduced(2, 6)[1:]:
                greatest[plain_power(base, number)] = (number, base)
        for word in all_reduced(2, 6)[1:]:
            number, base = greatest[word]
            self.assertEqual(root(word), (base, number))

    def test_of_powers(self):
        for word in ("a", "ab", "abA", "abaBA", "aabB", "cabC", "abc"):
            base, number = root(word)
            for times in (2, 3, 4):
                self.assertEqual(root(plain_power(word, times)), (base, number * times))
                turned = plain_power(word, -times)
                self.assertEqual(root(turned), (plain_inverse(base), number * times))

    def test_empty_and_long(self):
        for word in EMPTY:
            self.assertEqual(root(word), ("", 0))
        self.assertEqual(root("a" * 24), ("a", 24))
        self.assertEqual(root("abAB" * 6), ("abAB", 6))
        self.assertEqual(root("b" * 11 + "aa" + "B" * 11), ("b" * 11 + "a" + "B" * 11, 2))
        self.assertEqual(root("a" * 23 + "b"), ("a" * 23 + "b", 1))


class Commute(TestCase):
    words = all_words(2, 3) + ["abab", "BABABA", "abAabA", "aBBA", "abBA", "ababab", "abaBA", "abaaBA", "abAAB"]

    def test_joined_in_both_sequences(self):
        for first in self.words:
            for second in self.words:
                same = plain_reduced(first + second) == plain_reduced(second + first)
                self.assertIs(commute(first, second), same)
                self.assertEqual(common_root(first, second) is not None, same)

    def test_commute_exactly_if_the_roots_are_equal_or_inverse(self):
        for first in self.words:
            for second in self.words:
                left, right = root(first)[0], root(second)[0]
                if left and right:
                    self.assertIs(commute(first, second), left in (right, plain_inverse(right)))

    def test_common_root(self):
        for first in self.words:
            for second in self.words:
                told = common_root(first, second)
                if told is None:
                    continue
                base, left, right = told
                self.assertEqual(base, root(first)[0] or root(second)[0])
                self.assertEqual(plain_power(base, left), plain_reduced(first))
                self.assertEqual(plain_power(base, right), plain_reduced(second))
                self.assertGreaterEqual(left, 0)

    def test_powers_and_inverse_powers_of_a_root(self):
        for base in ("a", "C", "ab", "abA", "abAB", "abC"):
            for left in range(-4, 5):
                for right in range(-4, 5):
                    first, second = plain_power(base, left), plain_power(base, right)
                    told = base
                    if left < 0 or (left == 0 and right < 0):
                        told = plain_inverse(base)
                    expected = (told, abs(left), right if told == base else -right)
                    if left == right == 0:
                        expected = ("", 0, 0)
                    self.assertIs(commute(first, second), True)
                    self.assertEqual(common_root(first, second), expected)

    def test_empty_words(self):
        for word in EMPTY:
            self.assertEqual(common_root(word, "aBaB"), ("aB", 0, 2))
            self.assertEqual(common_root("bAbA", word), ("bA", 2, 0))
            for other in EMPTY:
                self.assertEqual(common_root(word, other), ("", 0, 0))
                self.assertIs(commute(word, other), True)

    def test_none(self):
        for first, second in (("a", "b"), ("ab", "ba"), ("aab", "aba"), ("abA", "b"), ("a" * 24, "b" * 24)):
            self.assertIs(commute(first, second), False)
            self.assertIs(common_root(first, second), None)

    def test_long_words(self):
        self.assertEqual(common_root("ab" * 12, "BA" * 12), ("ab", 12, -12))
        self.assertEqual(common_root("a" * 24, "a" * 23), ("a", 24, 23))
        self.assertEqual(common_root("aA" * 12, "A" * 24), ("A", 0, 24))


class TurnedForm(TestCase):
    def test_plain_search(self):
        for word in WORDS:
            self.assertEqual(turned_form(word), plain_turned_form(word))

    def test_same_for_what_is_turned(self):
        for word in all_words(2, 4) + some_words(40, 3, 12, 14):
            for turning in ("a", "B", "ab", "bAA", "cB"):
                told = plain_reduced(plain_inverse(turning) + word + turning)
                if len(told) <= 24:
                    self.assertEqual(turned_form(told), turned_form(word))

    def test_edges(self):
        for word in EMPTY:
            self.assertEqual(turned_form(word), "")
        self.assertEqual(turned_form("A"), "A")
        self.assertEqual(turned_form("ba"), "ab")
        self.assertEqual(turned_form("bA"), "Ab")
        self.assertEqual(turned_form("C" * 23 + "a"), "a" + "C" * 23)


class TurningWord(TestCase):
    def test_plain_search_over_all_short_words(self):
        candidates = all_reduced(2, 4)
        words = all_reduced(2, 4)
        forms = {word: plain_turned_form(word) for word in words}
        for first in words:
            for second in words:
                if forms[first] != forms[second]:
                    self.assertIs(turning_word(first, second), None)
                elif len(first) + len(second) < 8 or first[0] in "aB":
                    self.assertEqual(turning_word(first, second), plain_turning_word(first, second, candidates))

    def test_unreduced_and_longer_words(self):
        candidates = all_words(2, 5)
        for word in ("aab", "abaB", "abAA", "aBaB", "bAAABa", "aabbB", "abA"):
            for turning in all_reduced(2, 2):
                second = plain_inverse(turning) + word + turning
                told = turning_word(word, second)
                self.assertEqual(told, plain_turning_word(word, second, candidates))

    def test_words_of_rank_3(self):
        candidates = all_reduced(3, 4)
        for word in ("abc", "cabC", "cbCB", "aCaC", "c", "cabAC"):
            for turning in all_reduced(3, 2):
                second = plain_reduced(plain_inverse(turning) + word + turning)
                told = turning_word(word, second)
                self.assertEqual(told, plain_turning_word(word, second, candidates))

    def test_exactly_if_the_turned_forms_are_equal(self):
        for first in WORDS[:150]:
            for second in WORDS[150:300]:
                same = plain_turned_form(first) == plain_turned_form(second)
                self.assertEqual(turning_word(first, second) is not None, same)

    def test_long_words_are_turned(self):
        for word in LONG:
            outer, middle = plain_core(word)[0]
            for at in range(len(middle)):
                second = middle[at:] + middle[:at]
                told = turning_word(word, second)
                self.assertTrue(is_reduced(told))
                self.assertEqual(plain_reduced(plain_inverse(told) + word + told), second)
                self.assertLessEqual(by_length(told), by_length(plain_reduced(outer + middle[:at])))
                self.assertLessEqual(by_length(told), by_length(plain_reduced(outer + plain_inverse(middle[at:]))))

    def test_the_shorter_way_round(self):
        self.assertEqual(turning_word("aaaab", "baaaa"), "B")
        self.assertEqual(turning_word("baaaa", "aaaab"), "b")
        self.assertEqual(turning_word("a" * 23 + "b", "b" + "a" * 23), "B")
        self.assertEqual(turning_word("bcA", "cAb"), "b")
        first, second = "b" * 11 + "ac" + "B" * 11, "B" * 11 + "ca" + "b" * 11
        self.assertEqual(turning_word(first, second), "b" * 11 + "a" + "b" * 11)

    def test_empty_words_and_none(self):
        for first in EMPTY:
            for second in EMPTY:
                self.assertEqual(turning_word(first, second), "")
            self.assertIs(turning_word(first, "a"), None)
            self.assertIs(turning_word("aBA", first), None)
        for letter in LETTERS:
            self.assertIs(turning_word(letter, OPPOSITES[letter]), None)
            self.assertEqual(turning_word(letter, letter), "")
        self.assertIs(turning_word("ab", "aB"), None)
        self.assertIs(turning_word("aabb", "abab"), None)


class WrongArguments(TestCase):
    def test_one_word(self):
        for function in (core, root, turned_form):
            for word in ("abaBA", "aA" * 12, "abcABC" * 4):
                check_wrong_arguments(self, function, ("word", word, no_words(3)))

    def test_two_words(self):
        wrong = no_words(3)
        for function in (commute, common_root, turning_word):
            for second in ("b", "", "ab" * 12):
                check_wrong_arguments(self, function, ("first", "ab" * 12, wrong), ("second", second, wrong))
