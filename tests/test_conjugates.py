"""foldedways.conjugates: points [105] to [113]."""

from random import Random
from unittest import TestCase

from foldedways.bases import basis
from foldedways.comparing import are_equal
from foldedways.conjugates import (
    accepts_conjugator, conjugate_basis, conjugate_graph, conjugator, conjugator_evidence, is_conjugator)
from foldedways.derivations import derivation_for, inverted
from foldedways.graphs import graph_of, is_neat
from tests.plain import all_reduced, by_length, is_reduced, plain_inverse, plain_reduced, some_words
from tests.plain_bases import plain_free_words
from tests.plain_derivations import plain_accepts, stack_reduced
from tests.plain_pairs import (
    conjugate_family, graph_told, in_graph, is_member, long_families, plain_conjugate_graph, plain_is_conjugator,
    walked)
from tests.test_comparing import BY_HAND, no_others
from tests.test_completing import FINITE
from tests.test_folding import EDGES, FAMILIES, NO_FAMILIES
from tests.test_graphs import some_products
from tests.wrong import check_odd_forms, check_wrong_arguments, no_words, without_a_part

ALL = FAMILIES[::3] + EDGES + FINITE
SOME = FAMILIES[::8] + EDGES + FINITE
SHORT = {1: all_reduced(1, 10), 2: all_reduced(2, 5), 3: all_reduced(3, 3)}
ONE, OTHER = (2, ("abA",)), (2, ("BAbab",))


def long_words(rank, many, seed):
    """Make words of up to 100 letters, reduced and not, the same ones for the same seed."""
    reduced = [stack_reduced(word) for word in some_words(many, rank, 160, seed)]
    return some_words(many, rank, 100, seed) + [word[:100] for word in reduced] + ["", "a" * 100, "aA" * 50, "A" * 100]


def conjugate_pairs():
    """Make pairs of families that are conjugate, mostly, each behind the word by which they were made so."""
    chance = Random(108)
    pairs = []
    for rank in (2, 3) * 60:
        base = rank, tuple(some_words(chance.randint(1, 3), rank, 3, chance.random()))
        first, second = some_words(2, rank, 4, chance.random())
        one, other = conjugate_family(base, first), conjugate_family(base, second)
        if one is not None and other is not None:
            pairs.append((plain_inverse(first) + second, one, other))
    for family in FAMILIES[::8] + long_families(30, 2, 108) + long_families(10, 3, 108) + FINITE:
        for word in some_words(6, family[0], 5, chance.random()):
            other = conjugate_family(family, word)
            if other is not None:
                given = list(other[1])
                if len(given) < 4 and chance.random() < 0.3:
                    given.append(chance.choice(["", "aA"] + [told for told in some_products(other, 3, 1)
                                                             if len(told) <= 8]))
                chance.shuffle(given)
                pairs.append((word, family, (other[0], tuple(given))))
    return pairs


CONJUGATE = conjugate_pairs()


class ConjugateGraph(TestCase):
    def test_step_by_step(self):
        for family in SOME:
            for word in long_words(family[0], 3, 106) + some_words(6, family[0], 6, 107):
                graph = conjugate_graph(family, word)
                self.assertEqual(graph, plain_conjugate_graph(graph_told(family), family[0], word))
                self.assertIs(is_neat(family[0], graph), True)

    def test_words_of_the_conjugate(self):
        for family in SOME:
            rank = family[0]
            for word in some_words(5, rank, 7, 105):
                graph, back = conjugate_graph(family, word), plain_inverse(word)
                for told in SHORT[rank][::2] + some_words(6, rank, 12, 105):
                    self.assertEqual(in_graph(graph, told), is_member(family, word + told + back))
                for told in family[1]:
                    self.assertTrue(in_graph(graph, back + told + word))

    def test_the_empty_word_and_words_that_belong(self):
        for family in ALL:
            for word in ["", "aA", "AaaA"] + some_products(family, 5, 107):
                self.assertEqual(conjugate_graph(family, word), graph_told(family))
                self.assertEqual(conjugate_basis(family, word), basis(family))

    def test_reduced_forms(self):
        for family in SOME:
            for word in long_words(family[0], 4, 108):
                self.assertEqual(conjugate_graph(family, word), conjugate_graph(family, stack_reduced(word)))

    def test_one_behind_the_other(self):
        told = 0
        for family in ALL:
            for first in some_words(4, family[0], 4, 109):
                other = conjugate_family(family, first)
                if other is not None:
                    self.assertEqual(conjugate_graph(family, first), graph_of(other))
                    for second in some_words(3, family[0], 30, 110):
                        self.assertEqual(conjugate_graph(other, second), conjugate_graph(family, first + second))
                        told += 1
        self.assertGreater(told, 200)

    def test_one_behind_the_other_by_graphs(self):
        for family in SOME:
            for first, second in zip(long_words(family[0], 3, 111), long_words(family[0], 3, 112)):
                first, second = first[:50], second[:50]
                graph = conjugate_graph(family, first)
                self.assertEqual(plain_conjugate_graph(graph, family[0], second),
                                 conjugate_graph(family, first + second))

    def test_basis(self):
        for family in SOME:
            for word in long_words(family[0], 2, 113) + some_words(4, family[0], 6, 113):
                vertices, edges = graph = conjugate_graph(family, word)
                words = conjugate_basis(family, word)
                self.assertEqual(words, plain_free_words(family[0], graph))
                self.assertEqual(len(words), len(edges) - vertices + 1)
                self.assertEqual(len(words), len(basis(family)))
                for told in words:
                    self.assertTrue(is_reduced(told) and told)
                    self.assertTrue(is_member(family, stack_reduced(word + told + plain_inverse(word))))

    def test_vertices_and_edges(self):
        for family in ALL:
            vertices, edges = graph_told(family)
            finite = len(edges) == vertices * family[0]
            for word in long_words(family[0], 2, 114):
                other = conjugate_graph(family, word)
                self.assertLessEqual(other[0], vertices + len(stack_reduced(word)))
                self.assertEqual(len(other[1]) - other[0], len(edges) - vertices)
                if finite:
                    self.assertEqual((other[0], len(other[1])), (vertices, len(edges)))

    def test_by_hand(self):
        self.assertEqual(conjugate_graph((2, ("a",)), "aB"), (2, ((0, "b", 1), (1, "a", 1))))
        self.assertEqual(conjugate_graph((2, ("baB",)), "b"), (1, ((0, "a", 0),)))
        self.assertEqual(conjugate_graph((2, ()), "ab" * 50), (1, ()))
        self.assertEqual(conjugate_graph((2, ("a",)), "b" * 100)[0], 101)
        self.assertEqual(conjugate_basis((2, ("a",)), "b" * 100), ("B" * 100 + "a" + "b" * 100,))
        self.assertEqual(conjugate_basis((2, ("aa", "bb")), "a"), ("aa", "abbA"))
        self.assertEqual(conjugate_basis((1, ("aaa",)), "a" * 100), ("aaa",))

    def test_kinds(self):
        vertices, edges = conjugate_graph(ONE, "bb")
        self.assertEqual([told.__class__ for told in (vertices, edges, edges[0], conjugate_basis(ONE, "bb"))],
                         [int, tuple, tuple, tuple])


class IsConjugator(TestCase):
    def test_all_short_words(self):
        conjugate = 0
        for _, family, other in CONJUGATE[::6]:
            for word in SHORT[family[0]][::3]:
                told = plain_is_conjugator(family, other, word)
                self.assertIs(is_conjugator(family, other, word), told)
                conjugate += told
        self.assertGreater(conjugate, 50)

    def test_the_words_by_which_they_were_made(self):
        for word, family, other in CONJUGATE:
            back = plain_inverse(word)
            self.assertIs(is_conjugator(family, other, word), True)
            self.assertIs(is_conjugator(other, family, back), True)
            self.assertIs(is_conjugator(family, other, plain_reduced(word)), True)
            for member in some_products(family, 3, 1):
                self.assertIs(is_conjugator(family, other, member + word), True)
            for member in some_products(other, 3, 2):
                self.assertIs(is_conjugator(family, other, word + member), True)
                self.assertIs(is_conjugator(family, other, word + member + "bB"[:2 * (family[0] > 1)]), True)

    def test_one_behind_the_other(self):
        for first, family, other in CONJUGATE[::3]:
            for second in some_words(3, family[0], 3, 109):
                third = conjugate_family(other, second)
                if third is not None:
                    self.assertIs(is_conjugator(other, third, second), True)
                    self.assertIs(is_conjugator(family, third, first + second), True)
                    self.assertIs(is_conjugator(third, family, plain_inverse(first + second)), True)

    def test_other_words(self):
        for word, family, other in CONJUGATE[::2]:
            for told in some_words(5, family[0], 8, 110):
                self.assertIs(is_conjugator(family, other, told), plain_is_conjugator(family, other, told))

    def test_contained_is_not_enough(self):
        self.assertIs(is_conjugator((1, ("a",)), (1, ("aa",)), ""), False)
        self.assertIs(is_conjugator((1, ("aa",)), (1, ("a",)), ""), False)
        self.assertIs(is_conjugator((2, ("aa", "b")), (2, ("aa",)), "b"), False)
        self.assertIs(is_conjugator((2, ()), (2, ("a",)), "b"), False)
        self.assertIs(is_conjugator((2, ("a",)), (2, ()), "b"), False)

    def test_100_letters(self):
        self.assertIs(is_conjugator((2, ("a",)), (2, ("a",)), "a" * 100), True)
        self.assertIs(is_conjugator((2, ("a",)), (2, ("a",)), "a" * 99 + "b"), False)
        self.assertIs(is_conjugator((2, ("a",)), (2, ("Bab",)), "A" * 99 + "b"), True)
        self.assertIs(is_conjugator((2, ("bb",)), (2, ("bb",)), "aA" * 49 + "bb"), True)


class Conjugator(TestCase):
    def check_first(self, family, other, most):
        """Check that no short word before the told one is a conjugator; return what is told."""
        told = conjugator(family, other)
        for word in SHORT[family[0]]:
            if len(word) > most:
                break
            if told is not None and by_length(word) >= by_length(told):
                self.assertEqual(word, told)
                break
            self.assertFalse(plain_is_conjugator(family, other, word))
        return told

    def test_a_search_through_all_short_words(self):
        lengths = []
        for word, family, other in CONJUGATE[::2]:
            told = self.check_first(family, other, 5)
            self.assertTrue(plain_is_conjugator(family, other, told))
            self.assertTrue(is_reduced(told))
            self.assertLessEqual(by_length(told), by_length(plain_reduced(word)))
            self.assertLess(len(told), graph_told(family)[0] + graph_told(other)[0])
            lengths.append(len(told))
        self.assertGreater(min(lengths.count(many) for many in (0, 1, 2, 3)), 3)

    def test_not_conjugate(self):
        none = 0
        for family, other in BY_HAND + [(one, two) for _, one, two in CONJUGATE[::5]]:
            for third in (other, (family[0], ("ab"[:family[0]],)), (family[0], ("aaa", "b"[:family[0] - 1]))):
                told = self.check_first(family, third, 3)
                if told is not None:
                    self.assertTrue(plain_is_conjugator(family, third, told))
                else:
                    none += 1
                    self.assertIs(conjugator(third, family), None)
        self.assertGreater(none, 30)

    def test_both_directions(self):
        for _, family, other in CONJUGATE:
            there, back = conjugator(family, other), conjugator(other, family)
            self.assertEqual(len(there), len(back))
            self.assertIs(is_conjugator(family, other, plain_inverse(back)), True)
            self.assertIs(is_conjugator(other, family, plain_inverse(there)), True)

    def test_itself_and_as_many_words_in_the_bases(self):
        for family in ALL:
            self.assertEqual(conjugator(family, family), "")
        for _, family, other in CONJUGATE:
            self.assertEqual(len(basis(family)), len(basis(other)))
            self.assertEqual(conjugator(family, other) == "", are_equal(family, other))

    def test_families_to_which_only_the_empty_word_belongs(self):
        for rank in (1, 2, 3):
            for given in ((), ("",), ("aA", "")):
                self.assertEqual(conjugator((rank, given), (rank, ())), "")
                self.assertIs(conjugator((rank, given), (rank, ("a",))), None)
                self.assertIs(conjugator((rank, ("a",)), (rank, given)), None)

    def test_by_hand(self):
        self.assertEqual(conjugator((2, ("aaabA",)), (2, ("aab",))), "a")
        self.assertEqual(conjugator((2, ("aab",)), (2, ("baa",))), "B")
        self.assertEqual(conjugator((2, ("aab",)), (2, ("aba",))), "a")
        self.assertEqual(conjugator((2, ("ababab",)), (2, ("bababa",))), "a")
        self.assertEqual(conjugator((2, ("aabb",)), (2, ("bbaa",))), "aa")
        self.assertEqual(conjugator((2, ("bbaabb",)), (2, ("aabbbb",))), "bb")
        self.assertEqual(conjugator((2, ("aabAA",)), (2, ("AAbaa",))), "aaaa")
        self.assertEqual(conjugator((2, ("AAbaa",)), (2, ("aabAA",))), "AAAA")
        self.assertIs(conjugator((2, ("aaabAAA",)), (2, ("bbbaBBB",))), None)
        self.assertEqual(conjugator((2, ("a" * 3 + "bb" + "A" * 3,)), (2, ("AAAbbaaa",))), "aaaaaa")
        self.assertEqual(conjugator((1, ("aa",)), (1, ("AAAA", "aaaaaa"))), "")
        self.assertIs(conjugator((1, ("aa",)), (1, ("aaa",))), None)
        self.assertIs(conjugator((2, ("ab",)), (2, ("aB",))), None)

    def test_kinds(self):
        self.assertIs(conjugator(ONE, OTHER).__class__, str)
        self.assertIs(is_conjugator(ONE, OTHER, "aab"), True)
        self.assertIs(is_conjugator(ONE, OTHER, "b"), False)


def derivations_needed(family, other, word):
    """List the families and words of the derivations that are evidence, by point 110."""
    back = plain_inverse(word)
    there = [(family, stack_reduced(word + told + back)) for told in other[1]]
    return there, [(other, stack_reduced(back + told + word)) for told in family[1]]


class Evidence(TestCase):
    def test_exactly_for_conjugators(self):
        conjugate = 0
        for made, family, other in CONJUGATE:
            for word in [made, plain_reduced(made)] + some_words(3, family[0], 6, 110):
                told = conjugator_evidence(family, other, word)
                right = plain_is_conjugator(family, other, word)
                self.assertEqual(told is not None, right)
                if right:
                    self.check_accepted(family, other, word, told)
                    conjugate += 1
        self.assertGreater(conjugate, 200)

    def check_accepted(self, family, other, word, told):
        """Check the evidence, derivation by derivation, and by the judge."""
        for tuples, needed in zip(told, derivations_needed(family, other, word)):
            self.assertEqual(len(tuples), len(needed))
            for derivation, (by, goal) in zip(tuples, needed):
                self.assertTrue(plain_accepts(by, goal, derivation))
        self.assertIs(accepts_conjugator(family, other, word, told), True)
        self.assertIs(accepts_conjugator(other, family, plain_inverse(word), told[::-1]), True)

    def test_long_conjugators(self):
        told = 0
        tangled = (2, ("ab", "ba", "aabA", "bbaB"))
        for family in ((2, ("bb", "aba")), (2, ("b", "aa")), tangled, (2, ("a", "b")), (2, ("abab",))):
            for word in ("b" * 40, "b" * 47, "ab" * 23, "ba" * 20, "abA" * 14, "aA" * 50, "aabA" * 11, "abab" * 25):
                if not plain_is_conjugator(family, family, word):
                    self.assertIs(conjugator_evidence(family, family, word), None)
                    continue
                needed = derivations_needed(family, family, word)
                if all(len(goal) <= 100 for goals in needed for _, goal in goals):
                    self.check_accepted(family, family, word, conjugator_evidence(family, family, word))
                    told += 1
        self.assertGreater(told, 15)

    def test_words_of_100_letters(self):
        cubes = (1, ("aaa",))
        for word in ("a" * 100, "A" * 100, "aA" * 50, "a" * 99, ""):
            evidence = conjugator_evidence(cubes, (1, ("A" * 6, "aaa")), word)
            self.check_accepted(cubes, (1, ("A" * 6, "aaa")), word, evidence)
        family, other = (3, ("abcabcab", "cab")), (3, ("abcabcab", "cab", "abcabcab", "BAC"))
        word = "cab" * 33
        self.assertEqual(len(word), 99)
        self.check_accepted(family, (3, ("cab", "abcabcab")), "cab", conjugator_evidence(
            family, (3, ("cab", "abcabcab")), "cab"))
        self.assertIs(is_conjugator(family, other, word), True)

    def test_derivations_of_words_of_100_letters(self):
        family = (2, ("b", "aaaaaaaa"))
        for word in ("b" * 46, "b" * 46 + "bB" * 27, "B" * 46, "bB" * 27 + "B" * 46):
            there, back = evidence = conjugator_evidence(family, family, word)
            self.check_accepted(family, family, word, evidence)
            self.assertEqual([len(there[1][-1][0]), len(back[1][-1][0])], [100, 100])

    def test_left_out_exchanged_spoilt(self):
        family, other = (2, ("abA", "aa")), (2, ("b", "aa"))
        there, back = evidence = conjugator_evidence(family, other, "a")
        self.assertIs(accepts_conjugator(family, other, "a", evidence), True)
        for value in ((back, there), (there, there), (back, back), (there,), (there, back, back), (there, None), None, (),
                      (None, back), [there, back], (list(there), back), (there[::-1], back), (there, back[::-1]),
                      (there[:1], back), (there, back[1:]), (there + there[:1], back), (there, ()), ((), back), ((), ()),
                      ((there[0], inverted(family, there[1])), back), (there, (inverted(other, back[0]), back[1]))):
            self.assertIs(accepts_conjugator(family, other, "a", value), False)
        for version in without_a_part(evidence):
            self.assertIs(accepts_conjugator(family, other, "a", version), self.is_right(family, other, "a", version))

    def is_right(self, family, other, word, value):
        """Judge a value of tuples of strings and integers, in which parts may have been left out or put twice."""
        needed = derivations_needed(family, other, word)
        if len(value) != 2 or [len(told) for told in value] != [len(told) for told in needed]:
            return False
        for tuples, goals in zip(value, needed):
            for derivation, (by, goal) in zip(tuples, goals):
                if not all(len(step) == 2 and all(len(factor) == 3 for factor in step[1]) for step in derivation):
                    return False
                if not plain_accepts(by, goal, derivation):
                    return False
        return True

    def test_other_words_and_families(self):
        accepted = 0
        for at, (word, family, other) in enumerate(CONJUGATE[::3]):
            evidence = conjugator_evidence(family, other, word)
            for told in [plain_inverse(word), word + "a", ""] + some_words(2, family[0], 5, at):
                for one, two in ((family, other), (other, family), (family, family)):
                    right = self.is_right(one, two, told, evidence)
                    self.assertIs(accepts_conjugator(one, two, told, evidence), right)
                    if right:
                        self.assertTrue(plain_is_conjugator(one, two, told))
                        accepted += 1
        self.assertGreater(accepted, 20)

    def test_whoever_wrote_it(self):
        for word, family, other in CONJUGATE[::3]:
            needed = derivations_needed(family, other, word)
            value = tuple(tuple(derivation_for(by, goal) for by, goal in told) for told in needed)
            self.assertIs(accepts_conjugator(family, other, word, value), True)
            longer = tuple(tuple(inverted(by, inverted(by, told)) for told, (by, _) in zip(*both))
                           for both in zip(value, needed))
            self.assertIs(accepts_conjugator(family, other, word, longer), True)

    def test_no_given_words(self):
        self.assertEqual(conjugator_evidence((2, ()), (2, ()), "ab" * 50), ((), ()))
        self.assertIs(accepts_conjugator((2, ()), (2, ()), "ab" * 50, ((), ())), True)
        self.assertIs(accepts_conjugator((2, ("",)), (2, ()), "ab", ((), ((("", ()),),))), True)
        self.assertIs(accepts_conjugator((2, ("a",)), (2, ()), "ab", ((), ())), False)
        for value in (None, (), ((),), [(), ()], ((), []), ([], ()), ((), (), ()), ((), None), ""):
            self.assertIs(accepts_conjugator((2, ()), (2, ()), "", value), False)

    def test_values_of_every_other_kind(self):
        for family, other, word in ((ONE, OTHER, "aab"), ((2, ("abA", "aa")), (2, ("b", "aa")), "a")):
            evidence = conjugator_evidence(family, other, word)
            check_odd_forms(self, lambda value: accepts_conjugator(family, other, word, value), evidence)

    def test_kinds(self):
        there, back = conjugator_evidence(ONE, OTHER, "aab")
        self.assertEqual([there.__class__, back.__class__, len(there), len(back)], [tuple, tuple, 1, 1])
        self.assertIs(conjugator_evidence(ONE, OTHER, "b"), None)


class WrongArguments(TestCase):
    def test_family_and_word(self):
        for family in EDGES:
            for word in ("", "a" * 100, "aA" * 50):
                for function in (conjugate_graph, conjugate_basis):
                    check_wrong_arguments(
                        self, function, ("family", family, NO_FAMILIES), ("word", word, no_words(family[0], 100)))

    def test_two_families(self):
        for family in EDGES:
            rank = family[0]
            for other in ((rank, ()), (rank, ("a" * 8,) * 4)):
                check_wrong_arguments(
                    self, conjugator, ("family", family, NO_FAMILIES), ("other", other, no_others(rank)))

    def test_two_families_and_a_word(self):
        for family in EDGES:
            rank = family[0]
            for word in ("", "a" * 100, "aA" * 50):
                parameters = (
                    ("family", family, NO_FAMILIES), ("other", (rank, ("aa",)), no_others(rank)),
                    ("word", word, no_words(rank, 100)))
                check_wrong_arguments(self, is_conjugator, *parameters)
                check_wrong_arguments(self, conjugator_evidence, *parameters)
                for value in (None, ((), ())):
                    check_wrong_arguments(
                        self, lambda one, two, told: accepts_conjugator(one, two, told, value), *parameters)

    def test_four_given_words_of_eight_letters(self):
        family = (3, ("abcabcab", "cbacbacb", "aBcAbCaB", "CCCCCCCC"))
        self.assertEqual(conjugator(family, family), "")
        self.assertEqual(walked(conjugate_graph(family, "abc" * 33), ""), 0)
        self.assertIs(is_conjugator(family, family, "c" * 96), True)
