"""foldedways.members: points [82], [83], [86] to [88], [90], [91]."""

from unittest import TestCase

from foldedways.actions import least_power as least_power_in
from foldedways.completing import full_action
from foldedways.derivations import accepts_derivation
from foldedways.errors import TooLarge
from foldedways.members import (
    accepts_power, count_members, count_up_to, first_members, index_of_member, least_power, nth_member, power_evidence)
from tests.plain import all_reduced, by_length, is_reduced, plain_inverse, plain_power, plain_reduced, some_words
from tests.plain_actions import plain_returns, some_actions
from tests.plain_completing import plain_belongs
from tests.plain_derivations import plain_product, stack_reduced
from tests.plain_graphs import plain_graph, plain_walk, some_families
from tests.test_completing import FINITE
from tests.test_folding import EDGES, FAMILIES, NO_FAMILIES
from tests.test_graphs import some_products
from tests.wrong import check_odd_forms, check_wrong_arguments, no_integers, no_words, without_a_part

SOME = FAMILIES[::6] + EDGES + FINITE
SQUARES = (2, ("aa", "bb"))
EVEN = (2, ("aa", "ab", "bb"))
LISTED = {1: 24, 2: 6, 3: 4}
SHORT = {rank: all_reduced(rank, most) for rank, most in LISTED.items()}


def plain_members(family):
    """List all members with at most as many letters as are listed for the rank, in order by length."""
    graph = plain_graph(family)
    return [word for word in SHORT[family[0]] if plain_walk(graph, 0, word) == 0]


def only_the_empty_word(family):
    """Tell if no other word belongs."""
    return not any(plain_reduced(word) for word in family[1])


class Counts(TestCase):
    def test_against_a_listing(self):
        for family in SOME:
            members = plain_members(family)
            for length in range(LISTED[family[0]] + 1):
                self.assertEqual(count_members(family, length), sum(len(word) == length for word in members))
                self.assertEqual(count_up_to(family, length), sum(len(word) <= length for word in members))

    def test_lengths_up_to_24(self):
        for family in SOME:
            counts = [count_members(family, length) for length in range(25)]
            self.assertEqual([count_up_to(family, length) for length in range(25)],
                             [sum(counts[:length + 1]) for length in range(25)])
            for count in counts[1:]:
                self.assertEqual(count % 2, 0)
            self.assertEqual(counts[0], 1)

    def test_at_most_as_many_as_reduced_words(self):
        for family in SOME:
            rank = family[0]
            every = len(plain_graph(family)[1]) == rank and plain_graph(family)[0] == 1
            told = []
            for length in range(25):
                words = 1 if length == 0 else 2 * rank * (2 * rank - 1) ** (length - 1)
                self.assertLessEqual(count_members(family, length), words)
                told.append(count_members(family, length) == words)
            self.assertEqual(all(told), every)

    def test_known_numbers(self):
        self.assertEqual([count_members((2, ("a", "b")), length) for length in range(4)], [1, 4, 12, 36])
        self.assertEqual(count_members((3, ("a", "b", "c")), 24), 6 * 5 ** 23)
        self.assertEqual([count_members((1, ("aaa",)), length) for length in range(7)], [1, 0, 0, 2, 0, 0, 2])
        self.assertEqual([count_members(SQUARES, length) for length in range(5)], [1, 0, 4, 0, 12])
        self.assertEqual([count_members(EVEN, length) for length in range(5)], [1, 0, 12, 0, 108])
        self.assertEqual(count_up_to((2, ("a", "b")), 24), 1 + 2 * (3 ** 24 - 1))
        for family in ((1, ()), (2, ("aA", "")), (3, ("",))):
            self.assertEqual([count_members(family, length) for length in (0, 1, 24)], [1, 0, 0])
            self.assertEqual([count_up_to(family, length) for length in (0, 1, 24)], [1, 1, 1])

    def test_a_further_given_word(self):
        for rank, given in SOME:
            for word in some_words(2, rank, 8, 88) if len(given) < 4 else ():
                before = [count_members((rank, given), length) for length in range(13)]
                after = [count_members((rank, given + (word,)), length) for length in range(13)]
                self.assertTrue(all(one <= other for one, other in zip(before, after)))
                if plain_graph((rank, given)) == plain_graph((rank, given + (word,))):
                    self.assertEqual(before, after)
                    self.assertEqual(first_members((rank, given), 20), first_members((rank, given + (word,)), 20))


class Indexes(TestCase):
    def test_against_a_listing(self):
        for family in SOME:
            members = plain_members(family)
            for index, word in enumerate(members[:200]):
                self.assertEqual(nth_member(family, index), word)
            for index, word in enumerate(members):
                self.assertEqual(index_of_member(family, word), index)
            for many in (0, 1, 2, 10, 50):
                if len(members) >= many:
                    self.assertEqual(first_members(family, many), members[:many])

    def test_beyond_the_listing(self):
        for family in SOME:
            if only_the_empty_word(family):
                continue
            before, graph = "", plain_graph(family)
            for index in range(0, 200) if len(graph[1]) > graph[0] else range(0, 200, 7):
                word = nth_member(family, index)
                self.assertTrue(is_reduced(word))
                self.assertEqual(plain_walk(graph, 0, word), 0)
                if index:
                    self.assertLess(by_length(before), by_length(word))
                if len(word) <= 24:
                    self.assertEqual(index_of_member(family, word), index)
                    self.assertLessEqual(index + 1, count_up_to(family, len(word)))
                before = word

    def test_first_members_are_those_with_the_first_indexes(self):
        for family in SOME:
            told = first_members(family, 50)
            expected = [nth_member(family, index) for index in range(50)]
            self.assertEqual(told, [word for word in expected if word is not None])
            for many in (0, 1, 7):
                self.assertEqual(first_members(family, many), told[:many])

    def test_words_of_24_letters(self):
        for family in SOME:
            for word in some_products(family, 10, 82):
                index = index_of_member(family, word)
                reduced = plain_reduced(word)
                self.assertEqual(index_of_member(family, reduced), index)
                shorter = count_up_to(family, len(reduced) - 1) if reduced else 0
                self.assertTrue(shorter <= index < count_up_to(family, len(reduced)))
                if index < 200:
                    self.assertEqual(nth_member(family, index), reduced)
        self.assertEqual(index_of_member((1, ("a",)), "A" * 24), 48)
        self.assertEqual(index_of_member((3, ("a", "b", "c")), "C" * 24), 6 * (5 ** 24 - 1) // 4)

    def test_words_that_do_not_belong(self):
        for family in SOME:
            for word in some_words(6, family[0], 12, 83):
                self.assertEqual(index_of_member(family, word) is None, not plain_belongs(family, word))

    def test_the_empty_word_alone(self):
        for family in ((1, ()), (2, ("aA", "")), (3, ("",)), (2, ())):
            self.assertEqual([nth_member(family, index) for index in (0, 1, 2, 199)], ["", None, None, None])
            self.assertEqual([first_members(family, many) for many in (0, 1, 2, 50)], [[], [""], [""], [""]])
            self.assertEqual([index_of_member(family, word) for word in ("", "aA", "a")], [0, 0, None])

    def test_members_of_hundreds_of_letters(self):
        family = (1, ("a" * 8,))
        self.assertEqual([nth_member(family, index) for index in (197, 198, 199)], ["a" * 792, "A" * 792, "a" * 800])
        self.assertEqual(nth_member((3, ("abcabcab",)), 199), "abcabcab" * 100)
        self.assertEqual(nth_member((2, ("bbbaaBBB",)), 199), "bbb" + "aa" * 100 + "BBB")

    def test_the_inverse_of_a_member(self):
        for family in SOME:
            for word in first_members(family, 30):
                if len(word) <= 24:
                    index = index_of_member(family, plain_inverse(word))
                    self.assertIsNotNone(index)
                    self.assertEqual(index == index_of_member(family, word), word == "")

    def test_a_new_list_each_time(self):
        told = first_members(SQUARES, 5)
        self.assertIs(told.__class__, list)
        told.append("x")
        self.assertEqual(first_members(SQUARES, 5), ["", "aa", "AA", "bb", "BB"])


def plain_least_power(family, word):
    """Try the powers, as many as the graph has vertices."""
    graph = plain_graph(family)
    for many in range(1, graph[0] + 1):
        if plain_walk(graph, 0, plain_power(word, many)) == 0:
            return many
    return None


class LeastPower(TestCase):
    def test_trying_the_powers(self):
        found = set()
        for family in SOME:
            for word in some_words(6, family[0], 8, 86) + some_products(family, 2, 86) + ["", "a", "aA"]:
                told = least_power(family, word)
                self.assertEqual(told, plain_least_power(family, word))
                found.add(told)
        self.assertLessEqual({None, 1, 2, 3, 4}, found)

    def test_exactly_the_multiples(self):
        for family in some_families(15, 2, 86) + FINITE:
            graph = plain_graph(family)
            for word in some_words(4, family[0], 5, 87):
                least = least_power(family, word)
                for many in range(1, 13):
                    returning = plain_walk(graph, 0, plain_power(word, many)) == 0
                    self.assertEqual(returning, least is not None and many % least == 0)

    def test_finitely_many_classes(self):
        for family in FINITE:
            for word in some_words(20, family[0], 24, 88):
                self.assertLessEqual(least_power(family, word), plain_graph(family)[0])

    def test_by_hand(self):
        self.assertEqual([least_power((1, ("a" * 8,)), "a" * many) for many in range(9)], [1, 8, 4, 8, 2, 8, 4, 8, 1])
        self.assertEqual(least_power((1, ("a" * 8,)), "A" * 3), 8)
        self.assertIs(least_power(SQUARES, "ab"), None)
        self.assertEqual(least_power((2, ("abbaBA",)), "abaBA"), None)
        self.assertEqual(least_power((2, ("abaaBA",)), "abaBA"), 2)
        self.assertEqual(least_power((2, ()), "aA"), 1)
        self.assertIs(least_power((2, ()), "a"), None)
        self.assertEqual(least_power((2, ("aaa", "b")), "aBb"), 3)


class PowerEvidence(TestCase):
    def test_accepted(self):
        for family in SOME:
            for word in some_words(6, family[0], 10, 87) + some_products(family, 2, 87) + ["", "a"]:
                many = plain_least_power(family, word)
                if many is None:
                    self.assertIs(power_evidence(family, word), None)
                elif len(plain_power(word, many)) <= 100:
                    derivation, action = evidence = power_evidence(family, word)
                    self.assertIs(accepts_power(family, word, many, evidence), True)
                    self.assertEqual(derivation[-1][0], plain_power(word, many))
                    for told, factors in derivation:
                        self.assertEqual(plain_product(family[1], derivation, factors), told)
                    self.assertTrue(all(plain_returns(action, given) for given in family[1]))
                    self.assertEqual(least_power_in(action, word), many)
                    for other in (many - 1, many + 1, 2 * many, 60):
                        if other and other != many:
                            self.assertIs(accepts_power(family, word, other, evidence), False)

    def check_letters(self, family, word, many, letters):
        """Check the evidence, or that it is too large, for the power with so many letters."""
        power = plain_power(word, many)
        self.assertEqual(len(power), letters)
        self.assertEqual(least_power(family, word), many)
        if letters <= 100:
            evidence = power_evidence(family, word)
            self.assertIs(accepts_power(family, word, many, evidence), True)
            self.assertEqual(evidence[0][-1][0], power)
        else:
            with self.assertRaises(TooLarge) as caught:
                power_evidence(family, word)
            self.assertEqual(caught.exception.what, "word")

    def test_100_and_more_letters(self):
        # Nine letters a lead back to 0: five of them and the inverse of c, then c and four of them.
        family = (3, ("b", "aaaaaC", "AAAAC"))
        for outer, middle in (("bbbbb", "a" * 10), ("BBBBB", "A" * 10), ("b" * 5, "a" * 5 + "bB" + "a" * 5)):
            self.check_letters(family, outer + middle + plain_inverse(outer), 9, 100)
        self.check_letters(family, "b" * 6 + "a" * 10 + "B" * 6, 9, 102)
        self.check_letters(family, "a" * 11, 9, 99)
        self.check_letters(family, "b" + "a" * 11 + "B", 9, 101)
        self.check_letters(family, "b" * 4 + "a" * 10 + "B" * 4, 9, 98)
        self.check_letters(family, "A" * 24, 3, 72)
        self.check_letters(family, "A" * 23, 9, 207)
        for word, many, letters in (("a" * 13, 8, 104), ("a" * 11, 8, 88), ("A" * 12, 2, 24), ("A" * 23, 8, 184)):
            self.check_letters((1, ("a" * 8,)), word, many, letters)

    def test_the_empty_word(self):
        for family in SOME:
            for word in ("", "aA", "AaaA"):
                derivation, action = power_evidence(family, word)
                self.assertEqual((derivation[-1][0], action), ("", full_action(family)))
                self.assertIs(accepts_power(family, word, 1, (derivation, action)), True)

    def test_kinds(self):
        evidence = power_evidence(EVEN, "aba")
        self.assertEqual([told.__class__ for told in (evidence, *evidence)], [tuple] * 3)
        self.assertIs(power_evidence(SQUARES, "ab"), None)


class AcceptsPower(TestCase):
    def test_evidence_of_other_words_and_numbers(self):
        for family in SOME:
            words = some_words(6, family[0], 5, 89)
            for word, other in zip(words, words[1:] + words[:1]):
                many = least_power(family, other)
                if many is None:
                    continue
                derivation, action = evidence = power_evidence(family, other)
                for number in {many, many + 1, least_power(family, word) or 1, 60}:
                    right = stack_reduced(word * number) == derivation[-1][0] and least_power_in(action, word) == number
                    self.assertIs(accepts_power(family, word, number, evidence), right)

    def test_other_actions(self):
        for family in (SQUARES, EVEN, (2, ("aaa", "b")), (2, ("abab", "a"))):
            for word in ("a", "b", "ab", "aa", ""):
                many = least_power(family, word)
                if many is None:
                    continue
                derivation, _ = power_evidence(family, word)
                for points in (1, 2, 3, 4):
                    for action in some_actions(12, 2, points, points):
                        right = all(plain_returns(action, given) for given in family[1])
                        right = right and least_power_in(action, word) == many
                        self.assertIs(accepts_power(family, word, many, (derivation, action)), right)

    def test_whoever_wrote_it(self):
        squared = (("aaaa", (("given", 0, 1), ("given", 0, 1))),)
        action = ((1, 0), (0, 1))
        self.assertIs(accepts_power((2, ("aa",)), "a", 4, (squared, action)), False)
        self.assertIs(accepts_power((2, ("aa",)), "aa", 2, (squared, action)), False)
        self.assertIs(accepts_power((2, ("aa",)), "aa", 1, ((("aa", (("given", 0, 1),)),), action)), True)
        self.assertIs(accepts_power((2, ("aa",)), "a", 2, ((("aa", (("given", 0, 1),)),), action)), True)
        self.assertIs(accepts_power((2, ("aa",)), "a", 2, ((("aa", (("given", 0, 1),)),), ((0,), (0,)))), False)
        four = ((1, 2, 3, 0), (0, 1, 2, 3))
        self.assertIs(accepts_power((2, ("aa",)), "a", 4, (squared, four)), False)
        self.assertIs(accepts_power((2, ("aaaa",)), "a", 4, ((("aaaa", (("given", 0, 1),)),), four)), True)

    def test_spoilt_evidence(self):
        evidence = power_evidence(EVEN, "aba")
        self.assertIs(accepts_power(EVEN, "aba", 2, evidence), True)
        for version in without_a_part(evidence):
            if version != evidence and accepts_power(EVEN, "aba", 2, version):
                self.assertIs(accepts_derivation(EVEN, "abaaba", version[0]), True)
                self.assertEqual(version[1], evidence[1])
        for value in ((((), ()), ((1, 0), (1, 0))), evidence[::-1], (evidence[0], None), (None, evidence[1]),
                      (evidence[0], ((0, 1), (0, 1))), (evidence[0], ((1, 0), (0, 1))), (evidence[0], ((1, 0),)),
                      (evidence[0], ((1, 0), (1, 0), (1, 0))), evidence[:1], evidence + (1,)):
            self.assertIs(accepts_power(EVEN, "aba", 2, value), False)

    def test_values_of_every_other_kind(self):
        evidence = power_evidence(EVEN, "aba")
        check_odd_forms(self, lambda value: accepts_power(EVEN, "aba", 2, value), evidence)

    def test_60_and_more(self):
        action = (tuple([*range(1, 60), 0]),)
        self.assertIs(accepts_power((1, ()), "a", 60, ((("", ()),), action)), False)
        self.assertIs(accepts_power((1, ("",)), "aA", 60, ((("", ()),), action)), False)
        self.assertIs(accepts_power((1, ("",)), "aA", 1, ((("", ()),), action)), True)


class WrongArguments(TestCase):
    def test_length(self):
        for family in EDGES:
            for length in (0, 24):
                for function in (count_members, count_up_to):
                    check_wrong_arguments(
                        self, function, ("family", family, NO_FAMILIES), ("length", length, no_integers(0, 24)))

    def test_index_and_many(self):
        for family in EDGES:
            for index, many in ((0, 0), (199, 50)):
                check_wrong_arguments(
                    self, nth_member, ("family", family, NO_FAMILIES), ("index", index, no_integers(0, 199)))
                check_wrong_arguments(
                    self, first_members, ("family", family, NO_FAMILIES), ("many", many, no_integers(0, 50)))

    def test_word(self):
        for family in EDGES:
            for word in ("aA", "aA" * 12):
                for function in (index_of_member, least_power, power_evidence):
                    check_wrong_arguments(
                        self, function, ("family", family, NO_FAMILIES), ("word", word, no_words(family[0])))

    def test_many_of_a_power(self):
        for family in EDGES:
            for many in (1, 60):
                for value in (((("", ()),), full_action(family)), None):
                    check_wrong_arguments(
                        self, lambda told, word, number: accepts_power(told, word, number, value),
                        ("family", family, NO_FAMILIES), ("word", "aA", no_words(family[0])),
                        ("many", many, no_integers(1, 60)))

    def test_a_wrong_argument_comes_before_what_is_too_large(self):
        family = (1, ("a" * 8,))
        with self.assertRaises(TooLarge):
            power_evidence(family, "a" * 23)
        check_wrong_arguments(
            self, power_evidence, ("family", family, NO_FAMILIES), ("word", "a" * 12, ("a" * 25, "b" + "a" * 23)))
