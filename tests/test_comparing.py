"""foldedways.comparing: points [93] to [96], [98], [102] and [103]."""

from unittest import TestCase

from foldedways.bases import basis
from foldedways.comparing import (
    are_equal, both_basis, both_graph, common_basis, common_graph, is_contained, telling_word)
from foldedways.graphs import graph_of, is_neat
from tests.plain import LETTERS, all_reduced, is_reduced, plain_inverse
from tests.plain_bases import plain_free_words
from tests.plain_pairs import (
    graph_told, in_graph, is_member, plain_both_graph, plain_common_graph, some_pairs, table_of, walked)
from tests.test_completing import FINITE
from tests.test_folding import EDGES, FAMILIES, NO_FAMILIES
from tests.wrong import check_wrong_arguments

# Without given words, with empty, repeated and inverse ones, conjugate ones, and one contained in the other.
BY_HAND = [
    ((1, ()), (1, ())), ((2, ()), (2, ("a",))), ((3, ("", "aA")), (3, ("abc",))), ((2, ("",)), (2, ("", "bB"))),
    ((1, ("aa",)), (1, ("aaa",))), ((1, ("a" * 8,)), (1, ("a" * 7,))), ((1, ("a" * 6, "A" * 4)), (1, ("aaa",))),
    ((2, ("ab", "ab")), (2, ("BA", "ab"))), ((2, ("a",)), (2, ("baB",))), ((2, ("abA",)), (2, ("BAbab",))),
    ((2, ("aa", "b")), (2, ("a", "bb"))), ((2, ("ab",)), (2, ("aB",))), ((2, ("aa", "bb")), (2, ("aa", "ab", "bb"))),
    ((2, ("abab",)), (2, ("ababab",))), ((2, ("a", "b")), (2, ("abAB", "aab"))), ((3, ("abc",)), (3, ("abcabc",))),
    ((2, ("aab", "abb", "bab")), (2, ("aba", "bb", "aaa"))), ((3, ("ab", "bc", "ca")), (3, ("a", "bc", "cb", "ac"))),
    ((2, ("abababab", "babababa")), (2, ("aaaabbbb", "bbbbaaaa"))), ((2, ("aB", "abA")), (2, ("ba", "aab", "Ab"))),
]
PAIRS = BY_HAND + [pair for rank in (1, 2, 3) for pair in some_pairs(60, rank, 90 + rank)]
PAIRS += [(one, other) for one in FINITE for other in FINITE if one[0] == other[0] and one != other]
SHORT = {1: all_reduced(1, 24), 2: all_reduced(2, 6), 3: all_reduced(3, 4)}
OTHER_RANKS = {rank: tuple((other, given) for other in (1, 2, 3) if other != rank for given in ((), ("a",), ("aA",)))
               for rank in (1, 2, 3)}


def no_others(rank):
    """Return values that are no families of the rank."""
    return NO_FAMILIES + OTHER_RANKS[rank]


def is_told_apart(family, other, word):
    """Tell if the word belongs to exactly one of them."""
    return is_member(family, word) != is_member(other, word)


class Common(TestCase):
    def test_pairs_made_plainly(self):
        for family, other in PAIRS:
            self.assertEqual(common_graph(family, other), plain_common_graph(family, other))

    def test_all_short_words_walked_in_both_graphs(self):
        for family, other in PAIRS:
            graph = common_graph(family, other)
            self.assertIs(is_neat(family[0], graph), True)
            for word in SHORT[family[0]]:
                self.assertEqual(walked(graph, word) == 0, is_member(family, word) and is_member(other, word))

    def test_exchanged_and_with_itself(self):
        for family, other in PAIRS:
            self.assertEqual(common_graph(other, family), common_graph(family, other))
            self.assertEqual(common_basis(other, family), common_basis(family, other))
        for family in FAMILIES + EDGES + FINITE:
            self.assertEqual(common_graph(family, family), graph_told(family))
            self.assertEqual(common_basis(family, family), basis(family))

    def test_basis(self):
        for family, other in PAIRS:
            vertices, edges = common_graph(family, other)
            words = common_basis(family, other)
            self.assertEqual(words, plain_free_words(family[0], (vertices, edges)))
            self.assertEqual(len(words), len(edges) - vertices + 1)
            for word in words:
                self.assertTrue(word and is_reduced(word))
                self.assertTrue(is_member(family, word) and is_member(other, word))

    def test_at_most_so_many_words(self):
        most = 0
        for family, other in PAIRS:
            one, two = len(basis(family)), len(basis(other))
            many = len(common_basis(family, other))
            self.assertLessEqual(many, 2 * (one - 1) * (two - 1) + 1 if one and two else 0)
            most = max(most, many)
        self.assertGreater(most, 4)

    def test_by_hand(self):
        self.assertEqual(common_graph((2, ("ab",)), (2, ("aB",))), (1, ()))
        self.assertEqual(common_graph((1, ("aa",)), (1, ("aaa",)))[0], 6)
        self.assertEqual(common_basis((1, ("a" * 8,)), (1, ("a" * 7,))), ("a" * 28 + "a" * 28,))
        self.assertEqual(common_basis((2, ("abA",)), (2, ("abbA", "b"))), ("abbA",))
        self.assertEqual(common_basis((2, ()), (2, ("a", "b"))), ())

    def test_bases_of_words_of_more_than_24_letters(self):
        words = common_basis((2, ("ababab", "b" * 7)), (2, ("abab", "b" * 8)))
        self.assertIn("b" * 56, words)
        self.assertGreater(max(len(word) for pair in PAIRS for word in common_basis(*pair)), 24)


class Both(TestCase):
    def test_the_given_words_of_both(self):
        for family, other in PAIRS:
            self.assertEqual(both_graph(family, other), plain_both_graph(family, other))

    def test_exchanged_and_with_itself(self):
        for family, other in PAIRS:
            self.assertEqual(both_graph(other, family), both_graph(family, other))
            self.assertEqual(both_basis(other, family), both_basis(family, other))
        for family in FAMILIES + EDGES + FINITE:
            self.assertEqual(both_graph(family, family), graph_told(family))
            self.assertEqual(both_basis(family, family), basis(family))

    def test_words_of_either_belong(self):
        for family, other in PAIRS:
            graph = both_graph(family, other)
            for word in SHORT[family[0]][::3]:
                if is_member(family, word) or is_member(other, word):
                    self.assertEqual(walked(graph, word), 0)
            for one, two in zip(family[1], other[1]):
                self.assertTrue(in_graph(graph, one + two))
                self.assertTrue(in_graph(graph, two + plain_inverse(one)))

    def test_a_family_with_all_given_words_has_all_words(self):
        contained = 0
        for family, other in PAIRS:
            rank = family[0]
            for third in ((rank, tuple("abc"[:rank])), family, other, (rank, ("aa", "ab", "ac")[:rank]),
                          (rank, (family[1] + other[1])[:4])):
                if all(is_member(third, word) for word in family[1] + other[1] if word):
                    contained += 1
                    for word in both_basis(family, other):
                        self.assertTrue(is_member(third, word))
        self.assertGreater(contained, 100)

    def test_basis(self):
        for family, other in PAIRS:
            vertices, edges = both_graph(family, other)
            words = both_basis(family, other)
            self.assertEqual(words, plain_free_words(family[0], (vertices, edges)))
            self.assertEqual(len(words), len(edges) - vertices + 1)
            self.assertLessEqual(len(words), len(family[1]) + len(other[1]))
            for word in words:
                self.assertTrue(word and is_reduced(word))
                self.assertTrue(in_graph(plain_both_graph(family, other), word))

    def test_eight_given_words(self):
        words = ("aabbaabb", "bbaabbaa", "abcabcab", "cccccccc"), ("cabcabca", "bcbcbcbc", "aBcAbCaB", "acacacac")
        family, other = (3, words[0]), (3, words[1])
        self.assertEqual(both_graph(family, other), plain_both_graph(family, other))
        self.assertEqual(len(both_basis(family, other)), 8)


class Contained(TestCase):
    def test_each_of_the_ways(self):
        contained = 0
        for family, other in PAIRS:
            told = all(is_member(other, word) for word in family[1])
            self.assertIs(is_contained(family, other), told)
            self.assertEqual(plain_common_graph(family, other) == graph_told(family), told)
            self.assertEqual(plain_both_graph(family, other) == graph_told(other), told)
            self.assertEqual(common_graph(family, other) == graph_of(family), told)
            self.assertEqual(both_graph(family, other) == graph_of(other), told)
            contained += told
        self.assertTrue(30 < contained < len(PAIRS) - 30)

    def test_equal(self):
        equal = 0
        for family, other in PAIRS:
            told = graph_told(family) == graph_told(other)
            self.assertIs(are_equal(family, other), told)
            self.assertIs(are_equal(other, family), told)
            self.assertEqual(is_contained(family, other) and is_contained(other, family), told)
            equal += told
        self.assertTrue(10 < equal < len(PAIRS) - 10)

    def test_itself_and_given_words_in_other_ways(self):
        for rank, given in FAMILIES[::3] + EDGES:
            others = (given, given[::-1], tuple(plain_inverse(word) for word in given), (given + ("aA",))[:5][-4:])
            for other in others[:3] + (others[3:] if len(given) < 4 else ()):
                self.assertIs(are_equal((rank, given), (rank, other)), True)
                self.assertIs(is_contained((rank, given), (rank, other)), True)
                self.assertIs(is_contained((rank, other), (rank, given)), True)

    def test_in_both_together_and_common_words(self):
        for family, other in PAIRS:
            both = both_graph(family, other)
            self.assertTrue(all(in_graph(both, word) for word in family[1] + other[1]))
            for word in common_basis(family, other):
                self.assertTrue(in_graph(both, word))
            if len(family[1] + other[1]) <= 4:
                together = (family[0], family[1] + other[1])
                self.assertIs(is_contained(family, together), True)
                self.assertIs(is_contained(other, together), True)
                self.assertEqual(graph_of(together), both)

    def test_three_families(self):
        chains = 0
        for rank in (1, 2, 3):
            families = [one for pair in PAIRS if pair[0][0] == rank for one in pair][:24]
            within = {(one, other): is_contained(one, other) for one in families for other in families}
            for one in families:
                for two in families:
                    for three in families:
                        if within[(one, two)] and within[(two, three)]:
                            self.assertIs(within[(one, three)], True)
                            chains += 1
        self.assertGreater(chains, 500)

    def test_no_given_words(self):
        for rank in (1, 2, 3):
            for given in ((), ("",), ("aA", ""), ("a",)):
                self.assertIs(is_contained((rank, ()), (rank, given)), True)
                self.assertIs(is_contained((rank, given), (rank, ())), given != ("a",))
                self.assertIs(are_equal((rank, given), (rank, ())), given != ("a",))


def plain_telling_word(family, other, most):
    """Search through all reduced words in order by length that have not left both graphs; return the word, or None.

    Returns the number of letters as far as which nothing was found besides.
    """
    left, right = table_of(graph_told(family)), table_of(graph_told(other))
    words = [("", 0, 0)]
    for length in range(most + 1):
        longer = []
        for word, one, two in words:
            if (one == 0) != (two == 0):
                return word, length
            for letter in LETTERS[:2 * family[0]]:
                if is_reduced(word[-1:] + letter):
                    goals = left.get((one, letter)), right.get((two, letter))
                    if goals != (None, None):
                        longer.append((word + letter, *goals))
        words = longer
        if len(words) > 20000:
            return None, length
    return None, most


class TellingWord(TestCase):
    def test_a_search_through_all_short_words(self):
        found = 0
        for family, other in PAIRS:
            told = telling_word(family, other)
            for word in SHORT[family[0]]:
                if is_told_apart(family, other, word):
                    self.assertEqual(told, word)
                    found += 1
                    break
            else:
                self.assertTrue(told is None or len(told) > len(SHORT[family[0]][-1]))
        self.assertGreater(found, 60)

    def test_a_search_through_longer_words(self):
        longest = 0
        for family, other in PAIRS:
            told = telling_word(family, other)
            word, length = plain_telling_word(family, other, 12)
            if word is None:
                self.assertTrue(told is None or len(told) > length)
            else:
                self.assertEqual(told, word)
                longest = max(longest, len(word))
        self.assertGreater(longest, 6)

    def test_none_exactly_if_equal(self):
        for family, other in PAIRS:
            told = telling_word(family, other)
            self.assertEqual(told is None, graph_told(family) == graph_told(other))
            self.assertEqual(telling_word(other, family), told)
            if told is not None:
                self.assertTrue(is_reduced(told))
                self.assertTrue(is_told_apart(family, other, told))
                self.assertTrue(any(is_told_apart(family, other, word) for word in family[1] + other[1]))

    def test_itself(self):
        for family in FAMILIES[::3] + EDGES + FINITE:
            self.assertIs(telling_word(family, family), None)

    def test_words_that_leave_a_graph_and_come_back_are_not_reduced(self):
        # Unreduced, aA would leave the graph of bb alone and come back in that of aa.
        self.assertEqual(telling_word((2, ("bb",)), (2, ("aaa", "bb"))), "aaa")
        self.assertEqual(telling_word((2, ("bbb",)), (2, ("abA", "bbb"))), "abA")
        self.assertEqual(telling_word((1, ("a" * 8,)), (1, ())), "a" * 8)
        self.assertEqual(telling_word((3, ("CCAA",)), (3, ())), "aacc")
        self.assertEqual(telling_word((3, ("cc",)), (3, ("CC", "b"))), "b")

    def test_more_letters_than_the_given_words(self):
        longest = 0
        for family, other in PAIRS:
            told = telling_word(family, other)
            if told is not None:
                shortest = min(len(word) for word in family[1] + other[1] if is_told_apart(family, other, word))
                self.assertLessEqual(len(told), shortest)
                longest = max(longest, len(told))
        self.assertEqual(longest, 8)

    def test_kinds(self):
        self.assertIs(telling_word((1, ("aa",)), (1, ("aaa",))).__class__, str)
        self.assertIs(are_equal((1, ()), (1, ("",))), True)
        for told in (common_graph, both_graph, common_basis, both_basis):
            self.assertIs(told((2, ("ab",)), (2, ("abab", "b"))).__class__, tuple)
        vertices, edges = common_graph((2, ("ab",)), (2, ("abab", "b")))
        self.assertEqual([part.__class__ for part in (vertices, edges, edges[0], *edges[0])],
                         [int, tuple, tuple, int, str, int])


class WrongArguments(TestCase):
    functions = (
        common_graph, common_basis, both_graph, both_basis, is_contained, are_equal, telling_word)

    def test_two_families(self):
        for family in EDGES:
            rank = family[0]
            for other in ((rank, ()), (rank, ("a" * 8,) * 4)):
                for function in self.functions:
                    check_wrong_arguments(
                        self, function, ("family", family, NO_FAMILIES), ("other", other, no_others(rank)))

    def test_four_given_words_of_eight_letters(self):
        family = (3, ("abcabcab", "cbacbacb", "aBcAbCaB", "CCCCCCCC"))
        other = (3, ("bbbbbbbb", "cabcabca", "AAAAAAAA", "acBacBac"))
        for function in self.functions:
            function(family, other)
        self.assertEqual(telling_word(family, other), plain_telling_word(family, other, 9)[0])
