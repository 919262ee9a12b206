"""foldedways.bases: points [71] to [80]."""

from itertools import combinations
from random import Random
from unittest import TestCase

from foldedways.bases import (
    accepts_basis, basis, basis_evidence, expression_of, is_basis, is_choice, smallest_choice, value_of)
from foldedways.derivations import accepts_derivation, derivation_for
from tests.plain import is_reduced, plain_inverse, plain_reduced, some_words
from tests.plain_bases import (
    changed_bases, plain_basis, plain_expression, plain_value, some_expressions)
from tests.plain_completing import plain_belongs
from tests.plain_derivations import plain_neighbours
from tests.plain_graphs import plain_graph
from tests.test_completing import FINITE
from tests.test_folding import EDGES, FAMILIES, NO_FAMILIES
from tests.test_graphs import some_products
from tests.test_parting import no_tuples_of_words
from tests.wrong import NEVER, NO_TUPLES, check_odd_forms, check_wrong_arguments, no_words

ALL = FAMILIES + EDGES + FINITE
SOME = FAMILIES[::6] + EDGES + FINITE
EVEN = (2, ("aa", "ab", "bb"))
NO_PAIRS = (
    (), (0,), (0, 1, 1), (0, 0), (0, 2), (0, -2), (-1, 1), (0, None), (None, 1), (0, True), (False, 1), (0, 1.0),
    (0.0, 1), ("0", 1), (0, "1"), [0, 1], "01", 0, None, ((0, 1),), (0, (1,)), {0: 1}, (10 ** 30, 1), (0, 10 ** 30))


def how_many(family):
    """Return how many words a basis has, by point 75."""
    vertices, edges = plain_graph(family)
    return len(edges) - vertices + 1


def no_expressions(many):
    """Return values that are no expressions in so many words."""
    wrong = NO_TUPLES + ((0, 1), ((0, 1), 0), [(0, 1)], ((many, 1),), ((many, -1),))
    wrong += tuple((pair,) for pair in NO_PAIRS)
    if many:
        wrong += tuple(((0, 1), pair) for pair in NO_PAIRS) + (((0, 1),) * 101, ((0, 1), (0, -1)) * 51)
    return wrong


class Basis(TestCase):
    def test_free_edges_plainly(self):
        for family in ALL:
            self.assertEqual(basis(family), plain_basis(family))

    def test_reduced_not_empty_and_as_many_as_told(self):
        for family in ALL:
            words = basis(family)
            self.assertEqual(len(words), how_many(family))
            self.assertEqual(len(set(words)), len(words))
            for word in words:
                self.assertTrue(is_reduced(word) and word)
                self.assertTrue(plain_belongs(family, word))

    def test_the_words_make_the_same_family(self):
        for family in ALL:
            self.assertEqual(plain_graph((family[0], basis(family))), plain_graph(family))

    def test_words_that_make_the_same_family_have_the_same_basis(self):
        chance = Random(76)
        for rank, given in SOME:
            told = basis((rank, given))
            shuffled = list(given)
            chance.shuffle(shuffled)
            others = [tuple(shuffled), tuple(plain_inverse(word) for word in given), given[::-1]]
            if len(told) <= 4 and all(len(word) <= 8 for word in told):
                others.append(told)
            if len(given) > 1 and len(given[0] + given[1]) <= 8:
                others.append((given[0] + given[1],) + given[1:])
            for other in others:
                self.assertEqual(basis((rank, other)), told)

    def test_a_given_word_more(self):
        for rank, given in FAMILIES + FINITE:
            if len(given) == 4:
                continue
            before = basis((rank, given))
            for word in some_words(3, rank, 8, 76) + some_products((rank, given), 3, 76):
                if len(word) <= 8:
                    after = basis((rank, given + (word,)))
                    if plain_belongs((rank, given), word):
                        self.assertEqual(after, before)
                    else:
                        self.assertLessEqual(len(after), len(before) + 1)
                        self.assertNotEqual(after, before)

    def test_not_more_words_than_given_words(self):
        for family in ALL:
            self.assertLessEqual(len(basis(family)), len(family[1]))
        self.assertEqual([basis((rank, ("", "aA"))) for rank in (1, 2, 3)], [(), (), ()])

    def test_no_words_longer_than_9_letters(self):
        self.assertEqual(max(len(word) for family in ALL for word in basis(family)), 8)
        self.assertEqual(basis((1, ("a" * 8,))), ("aaaaaaaa",))

    def test_kinds(self):
        self.assertEqual(basis((2, ())), ())
        self.assertEqual([told.__class__ for told in (basis(EVEN), basis(EVEN)[0])], [tuple, str])


class Expressions(TestCase):
    def test_free_edges_along_the_word(self):
        for family in ALL:
            for word in some_words(5, family[0], 24, 74) + some_products(family, 6, 74):
                self.assertEqual(expression_of(family, word), plain_expression(family, word))

    def test_the_word_is_the_value(self):
        for family in ALL:
            words = basis(family)
            for word in some_products(family, 8, 75) + some_words(4, family[0], 24, 75) + ["", "aA"]:
                pairs = expression_of(family, word)
                self.assertEqual(pairs is not None, plain_belongs(family, word))
                if pairs is not None:
                    self.assertEqual(plain_value(words, pairs), plain_reduced(word))
                    self.assertEqual(value_of(family, pairs), plain_reduced(word))
                    self.assertEqual(plain_neighbours(pairs), pairs)

    def test_the_expression_of_a_value_is_the_reduced_expression(self):
        for family in SOME:
            for pairs in some_expressions(len(basis(family)), 15, 5, 76):
                value = value_of(family, pairs)
                self.assertEqual(value, plain_value(basis(family), pairs))
                if len(value) <= 24:
                    self.assertEqual(expression_of(family, value), plain_neighbours(pairs))
                    self.assertTrue(plain_belongs(family, value))

    def test_words_of_the_basis(self):
        for family in ALL:
            for number, word in enumerate(basis(family)):
                self.assertEqual(expression_of(family, word), ((number, 1),))
                self.assertEqual(expression_of(family, plain_inverse(word)), ((number, -1),))
                self.assertEqual(value_of(family, ((number, 1),)), word)
                self.assertEqual(value_of(family, ((number, -1),)), plain_inverse(word))
            self.assertEqual(expression_of(family, "aA"), ())
            self.assertEqual(value_of(family, ()), "")

    def test_unreduced_expressions(self):
        self.assertEqual(value_of(EVEN, ((0, 1), (0, -1))), "")
        self.assertEqual(value_of(EVEN, ((1, 1), (0, 1), (0, -1), (1, 1))), "aaaa")
        self.assertEqual(value_of(EVEN, ((0, -1), (1, 1), (0, 1), (0, -1))), "aBaa")

    def test_100_pairs(self):
        self.assertEqual(value_of((1, ("a" * 8,)), ((0, -1),) * 100), "A" * 800)
        self.assertEqual(value_of(EVEN, ((1, 1), (1, -1)) * 50), "")

    def test_words_that_do_not_belong(self):
        for word in ("a", "aba", "B" * 23):
            self.assertIs(expression_of(EVEN, word), None)
        self.assertIs(expression_of((2, ("aab",)), "aa"), None)
        self.assertIs(expression_of((2, ()), "a"), None)

    def test_kinds(self):
        pairs = expression_of(EVEN, "bb")
        self.assertEqual([told.__class__ for told in (pairs, pairs[0])], [tuple, tuple])
        self.assertIs(value_of(EVEN, pairs).__class__, str)


class Choices(TestCase):
    def test_all_choices(self):
        for family in ALL:
            rank, given = family
            found = []
            for many in range(len(given) + 1):
                for chosen in combinations(range(len(given)), many):
                    words = tuple(given[at] for at in chosen)
                    same = plain_graph((rank, words)) == plain_graph(family)
                    self.assertIs(is_choice(family, chosen), same)
                    if same:
                        found.append(chosen)
            self.assertEqual(smallest_choice(family), found[0])

    def test_the_fewest_come_first(self):
        self.assertEqual(smallest_choice((1, ("aaaa", "aaaaaa", "aa"))), (2,))
        self.assertEqual(smallest_choice((1, ("aaaa", "aaaaaa", "aa", "AA"))), (2,))
        self.assertEqual(smallest_choice((2, ("ab", "a", "b", "ba"))), (0, 1))
        self.assertEqual(smallest_choice((2, ("ab", "BA", "b", "ab"))), (0, 2))
        self.assertEqual(smallest_choice((2, ("", "aA"))), ())
        self.assertEqual(smallest_choice((2, ())), ())

    def test_kinds(self):
        self.assertIs(is_choice(EVEN, ()), False)
        self.assertIs(is_choice((2, ("", "")), ()), True)
        self.assertEqual([told.__class__ for told in (smallest_choice(EVEN), smallest_choice(EVEN)[0])], [tuple, int])


def plain_is_basis(family, words):
    """Judge by the number of the words and the graph that they make."""
    return len(words) == how_many(family) and plain_graph((family[0], tuple(words))) == plain_graph(family)


class IsBasis(TestCase):
    def test_changed_bases(self):
        changed = 0
        for family in SOME:
            for words in changed_bases(basis(family), 8, 78):
                self.assertIs(is_basis(family, words), True)
                self.assertTrue(plain_is_basis(family, words))
                changed += words != basis(family)
                if words:
                    self.assertIs(is_basis(family, words[1:]), False)
                    self.assertIs(is_basis(family, words + words[:1]), False)
                    self.assertIs(is_basis(family, words + ("",)), False)
                    self.assertIs(is_basis(family, words[1:] + ("",)), False)
                    if len(words[-1]) <= 12:
                        self.assertIs(is_basis(family, words[:-1] + (words[-1] * 2,)), False)
        self.assertGreater(changed, 100)

    def test_drawn_words(self):
        for family in SOME:
            for seed in range(4):
                words = tuple(some_words(how_many(family), family[0], 3, seed))
                self.assertIs(is_basis(family, words), plain_is_basis(family, words))
                members = tuple(some_products(family, 8, seed)[:how_many(family)])
                self.assertIs(is_basis(family, members), plain_is_basis(family, members))
            self.assertIs(is_basis(family, family[1]), len(family[1]) == how_many(family))

    def test_unreduced_words(self):
        self.assertIs(is_basis((1, ("aa",)), ("aAaa",)), True)
        self.assertIs(is_basis((1, ("aa",)), ("aa" + "aA" * 11,)), True)
        self.assertIs(is_basis((2, ("a", "b")), ("abB" * 7, "b")), False)

    def test_eight_words_and_none(self):
        self.assertIs(is_basis((2, ("a", "b")), ("a",) * 8), False)
        self.assertIs(is_basis((2, ("",)), ()), True)
        self.assertIs(is_basis((2, ("a",)), ()), False)
        self.assertIs(is_basis((2, ()), ("",)), False)


class Evidence(TestCase):
    def check(self, family, words):
        """Check that there is accepted evidence exactly for a basis."""
        evidence = basis_evidence(family, words)
        self.assertEqual(evidence is not None, plain_is_basis(family, words))
        if evidence is not None:
            derivations, expressions = evidence
            if max([len(pairs) for pairs in expressions], default=0) <= 100:
                self.assertIs(accepts_basis(family, words, evidence), True)
            for word, told in zip(words, derivations):
                self.assertIs(accepts_derivation(family, word, told), True)
            for word, pairs in zip(family[1], expressions):
                self.assertEqual(plain_value(words, pairs), plain_reduced(word))
                self.assertEqual(plain_neighbours(pairs), pairs)

    def test_the_basis(self):
        for family in ALL:
            evidence = basis_evidence(family, basis(family))
            self.assertIs(accepts_basis(family, basis(family), evidence), True)
            self.assertEqual(evidence[1], tuple(plain_expression(family, word) for word in family[1]))

    def test_changed_bases(self):
        for family in SOME:
            for words in changed_bases(basis(family), 10, 79):
                self.check(family, words)
                self.check(family, words[1:])
                self.check(family, words + ("",))

    def test_drawn_words(self):
        for family in SOME:
            for seed in range(4):
                self.check(family, tuple(some_words(how_many(family), family[0], 3, seed)))

    def test_long_words(self):
        family = (3, ("a", "b", "c"))
        for words in (("a", "b" + "a" * 23, "c"), ("a", "b" + "a" * 9, "c" + "b" * 9), ("aab" + "cC", "Ba", "abcab")):
            self.check(family, words)
        words = ("a", "b" + "a" * 9, "c" + "b" * 9)
        self.assertEqual([len(pairs) for pairs in basis_evidence(family, words)[1]], [1, 10, 91])

    def test_whoever_wrote_it(self):
        for family in SOME:
            for words in changed_bases(basis(family), 4, 80) + [tuple(some_words(how_many(family), family[0], 3, 81))]:
                evidence = (
                    tuple(derivation_for(family, word) for word in words),
                    tuple(expression_of(family, word) for word in family[1]))
                told = all(plain_belongs(family, word) for word in words) and all(
                    plain_value(words, pairs) == plain_reduced(word) for word, pairs in zip(family[1], evidence[1]))
                self.assertIs(accepts_basis(family, words, evidence), told)
                if told:
                    self.assertTrue(plain_is_basis(family, words))

    def test_a_derivation_an_expression_a_number_or_a_sign_changed(self):
        words = ("aB", "aa", "bb")
        derivations, expressions = evidence = basis_evidence(EVEN, words)
        self.assertIs(accepts_basis(EVEN, words, evidence), True)
        for turn in range(1, 3):
            self.assertIs(accepts_basis(EVEN, words, (derivations[turn:] + derivations[:turn], expressions)), False)
            self.assertIs(accepts_basis(EVEN, words, (derivations, expressions[turn:] + expressions[:turn])), False)
            self.assertIs(accepts_basis(EVEN, words[turn:] + words[:turn], evidence), False)
        for told in (derivations[1:], derivations[:-1], derivations + derivations[-1:], ()):
            self.assertIs(accepts_basis(EVEN, words, (told, expressions)), False)
        for told in (expressions[1:], expressions[:-1], expressions + expressions[-1:], expressions + ((),), ()):
            self.assertIs(accepts_basis(EVEN, words, (derivations, told)), False)
        for at, pairs in enumerate(expressions):
            for place, (number, sign) in enumerate(pairs):
                for pair in ((number, -sign), ((number + 1) % 3, sign), (number + 3, sign), (-1, sign), (number, 0)):
                    other = pairs[:place] + (pair,) + pairs[place + 1:]
                    spoilt = expressions[:at] + (other,) + expressions[at + 1:]
                    self.assertIs(accepts_basis(EVEN, words, (derivations, spoilt)), False)
                spoilt = expressions[:at] + (pairs[:place] + pairs[place + 1:],) + expressions[at + 1:]
                self.assertIs(accepts_basis(EVEN, words, (derivations, spoilt)), False)

    def test_words_that_are_too_many_or_too_few(self):
        one = (("a", (("given", 0, 1),)),)
        self.assertIs(accepts_basis((1, ("a",)), ("a",), ((one,), (((0, 1),),))), True)
        self.assertIs(accepts_basis((1, ("a",)), ("a", "a"), ((one, one), (((0, 1),),))), False)
        self.assertIs(accepts_basis((1, ("a",)), ("a", ""), ((one, (("", ()),)), (((0, 1),),))), False)
        self.assertIs(accepts_basis((1, ("",)), ("",), (((("", ()),),), ((),))), False)
        self.assertIs(accepts_basis((1, ("",)), (), ((), ((),))), True)
        self.assertIs(accepts_basis((1, ()), (), ((), ())), True)
        self.assertIs(accepts_basis((1, ("a",)), (), ((), ((),))), False)

    def test_expressions_of_100_and_of_101_pairs(self):
        one = (("a", (("given", 0, 1),)),)
        for many, right in ((99, True), (100, False), (101, False), (98, False)):
            pairs = (((0, 1), (0, -1)) * 51)[:many]
            self.assertIs(accepts_basis((1, ("a",)), ("a",), ((one,), (pairs,))), right)
        for many, right in ((98, True), (100, True), (102, False)):
            pairs = ((0, 1), (0, -1)) * (many // 2)
            self.assertIs(accepts_basis((1, ("a", "")), ("a",), ((one,), (((0, 1),), pairs))), right)
        with_99 = ((0, 1),) + ((0, 1), (0, -1)) * 49 + ((0, 1), (0, 1))
        self.assertEqual(len(with_99), 101)
        self.assertIs(accepts_basis((1, ("aaa",)), ("aaa",), (((("aaa", (("given", 0, 1),)),),), (with_99,))), False)

    def test_values_of_every_other_kind(self):
        words = ("aB", "aa", "bb")
        evidence = basis_evidence(EVEN, words)
        check_odd_forms(self, lambda value: accepts_basis(EVEN, words, value), evidence)
        for pair in NO_PAIRS:
            self.assertIs(accepts_basis(EVEN, words, (evidence[0], evidence[1][:2] + ((pair,),))), False)
            self.assertIs(accepts_basis(EVEN, words, (evidence[0], evidence[1][:2] + (pair,))), False)

    def test_evidence_for_other_words_and_families(self):
        words = ("aB", "aa", "bb")
        evidence = basis_evidence(EVEN, words)
        for other in (("aB", "aa"), words + ("",), ("aB", "aa", "BB"), ("aB", "aa", "aa"), (), ("", "", "")):
            self.assertIs(accepts_basis(EVEN, other, evidence), False)
        for given in (("aa", "ab", "bb", ""), ("aa", "ab"), ("aa", "bb", "ab"), (), ("a", "b")):
            self.assertIs(accepts_basis((2, given), words, evidence), False)
        self.assertIs(accepts_basis(EVEN, ("aB", "aa", "bBbb"), evidence), True)

    def test_kinds(self):
        evidence = basis_evidence(EVEN, ("aB", "aa", "bb"))
        for told in (evidence, *evidence, evidence[1][0], evidence[1][0][0]):
            self.assertIs(told.__class__, tuple)
        self.assertIs(basis_evidence(EVEN, ("aa", "bb")), None)


class WrongArguments(TestCase):
    def test_family(self):
        for family in EDGES:
            for function in (basis, smallest_choice):
                check_wrong_arguments(self, function, ("family", family, NO_FAMILIES))

    def test_word(self):
        for family in EDGES:
            for word in ("aA", "a" * 24):
                check_wrong_arguments(
                    self, expression_of, ("family", family, NO_FAMILIES), ("word", word, no_words(family[0])))

    def test_expression(self):
        for family in EDGES:
            many = how_many(family)
            for good in ((), ((many - 1, 1), (0, -1)) * 50 if many else ()):
                check_wrong_arguments(
                    self, value_of, ("family", family, NO_FAMILIES), ("expression", good, no_expressions(many)))

    def test_chosen(self):
        for family in EDGES:
            many = len(family[1])
            wrong = NO_TUPLES + ((many,), (-1,), (None,), (False,), (True,), ("0",), (0.0,), (0, 0), (1, 0), (0, many))
            wrong += ([0], (2, 1), (0, 2, 1), (0, 1, 1), ((0,),), (0, None), (0, "1"), (0, 1, 2, 3, 4), (10 ** 30,), NEVER)
            check_wrong_arguments(
                self, is_choice, ("family", family, NO_FAMILIES), ("chosen", tuple(range(many)), wrong))

    def test_words(self):
        for family in EDGES:
            for words in (("a",) * 8, (), ("a" * 24,)):
                parameters = (
                    ("family", family, NO_FAMILIES), ("words", words, no_tuples_of_words(family[0], 8)))
                for function in (is_basis, basis_evidence):
                    check_wrong_arguments(self, function, *parameters)
                for value in (((), ()), None):
                    check_wrong_arguments(
                        self, lambda told, spelled: accepts_basis(told, spelled, value), *parameters)
