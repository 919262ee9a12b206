"""foldedways.derivations: points [42] to [51], and [7], [8]."""

from random import Random
from unittest import TestCase

from foldedways.derivations import accepts_derivation, derivation_for, expansion, inverted, joined, trimmed
from foldedways.errors import TooLarge
from tests.plain import all_words, is_reduced, plain_inverse, plain_reduced, some_words
from tests.plain_derivations import (
    plain_accepts, plain_neighbours, plain_pairs, plain_product, plain_trimmed, some_derivations, stack_reduced)
from tests.plain_graphs import plain_graph, plain_petals, plain_walk, some_families
from tests.test_folding import EDGES, FAMILIES, NO_FAMILIES
from tests.test_graphs import some_products
from tests.wrong import (
    NEVER, NO_TUPLES, check_odd_forms, check_wrong_arguments, no_words, part_by_part, with_lists)

SOME = FAMILIES[::6] + EDGES
AB = (2, ("ab", "b"))
BY_HAND = (
    ("ab", (("given", 0, 1),)), ("b", (("given", 1, 1),)), ("a", (("step", 0, 1), ("step", 1, -1))))
EMPTY = (("", ()),)


def plain_belongs(family, word):
    """Tell if the word belongs, by a plain walk in the plain graph."""
    return plain_walk(plain_graph(family), 0, plain_reduced(word)) == 0


def last_word(value):
    """Return the word of the last step."""
    return value[-1][0]


def chain_of(many):
    """Return a derivation for the empty given word of so many steps, each of which names the one before."""
    return (("", (("given", 0, 1),)),) + tuple(("", (("step", at, 1),)) for at in range(many - 1))


def one_letter(many):
    """Return a derivation of one step for the given word a, put so many times."""
    return (("a" * many, (("given", 0, 1),) * many),)


class AcceptsDerivation(TestCase):
    def test_by_hand(self):
        self.assertIs(accepts_derivation(AB, "a", BY_HAND), True)
        self.assertIs(accepts_derivation(AB, "ab", BY_HAND[:1]), True)
        self.assertIs(accepts_derivation(AB, "abb", (("abb", (("given", 0, 1), ("given", 1, 1))),)), True)
        self.assertIs(accepts_derivation(AB, "BBA", (("BBA", (("given", 1, -1), ("given", 0, -1))),)), True)
        squares = (2, ("aa", "bb"))
        self.assertIs(accepts_derivation(squares, "aabb", (("aabb", (("given", 0, 1), ("given", 1, 1))),)), True)
        self.assertIs(accepts_derivation(squares, "aaBB", (("aaBB", (("given", 0, 1), ("given", 1, 1))),)), False)

    def test_exactly_the_words_that_mean_the_same(self):
        for word in all_words(2, 5):
            self.assertIs(accepts_derivation(AB, word, BY_HAND), plain_reduced(word) == "a")
            self.assertIs(accepts_derivation(AB, word, EMPTY), plain_reduced(word) == "")
        self.assertIs(accepts_derivation(AB, "a" + "bB" * 11, BY_HAND), True)

    def test_each_given_word_and_the_empty_word(self):
        for family in FAMILIES + EDGES:
            self.assertIs(accepts_derivation(family, "", EMPTY), True)
            for number, word in enumerate(family[1]):
                for sign, told in ((1, word), (-1, plain_inverse(word))):
                    value = ((plain_reduced(told), (("given", number, sign),)),)
                    self.assertIs(accepts_derivation(family, told, value), True)
                    self.assertIs(accepts_derivation(family, told + "a", value), False)
                    if told != plain_reduced(told):
                        self.assertIs(accepts_derivation(family, told, ((told, value[0][1]),)), False)

    def test_made_plainly(self):
        for family in SOME:
            for value in some_derivations(family, 12, 44):
                for word in {last_word(value)[:24], last_word(value)[1:24], "", "a"}:
                    self.assertIs(accepts_derivation(family, word, value), plain_accepts(family, word, value))
                if len(last_word(value)) <= 24:
                    self.assertIs(accepts_derivation(family, last_word(value), value), True)

    def test_accepted_words_belong(self):
        for family in SOME:
            for value in some_derivations(family, 6, 45):
                if len(last_word(value)) <= 24 and accepts_derivation(family, last_word(value), value):
                    self.assertTrue(plain_belongs(family, last_word(value)))

    def test_a_letter_a_factor_a_sign_or_a_number_changed(self):
        told = 0
        for family in SOME:
            for value in some_derivations(family, 3, 46):
                word = last_word(value)[:24]
                for version in self.spoilt(family, value):
                    self.assertIs(accepts_derivation(family, word, version), plain_accepts(family, word, version))
                    told += not plain_accepts(family, word, version)
        self.assertGreater(told, 1000)

    def spoilt(self, family, value):
        """List versions that still have the form of a derivation."""
        versions = []
        for at, (word, factors) in enumerate(value):
            ahead, behind = value[:at], value[at + 1:]
            versions += [ahead + behind, ahead + value[at:at + 1] + value[at:], behind + value[at:at + 1]]
            for other in (word + "a", word[1:], "b" + word, word + "aA", "aA", plain_inverse(word), word[::-1]):
                versions.append(ahead + ((other, factors),) + behind)
            for place, (kind, number, sign) in enumerate(factors):
                others = [(kind, number, -sign), (kind, number + 1, sign), (kind, number - 1, sign), (kind, 0, sign)]
                others += [({"given": "step", "step": "given"}[kind], number, sign), (kind, at, sign), (kind, 99, sign)]
                others += [(kind, number, 0), (kind, number, 2), ("", number, sign), ("giv", number, sign)]
                for other in others:
                    versions.append(ahead + ((word, factors[:place] + (other,) + factors[place + 1:]),) + behind)
                versions.append(ahead + ((word, factors[:place] + factors[place + 1:]),) + behind)
                versions.append(ahead + ((word, factors[:place + 1] + factors[place:]),) + behind)
                versions.append(ahead + ((word, factors[::-1]),) + behind)
        return [version for version in versions if version != value]

    def test_a_step_is_named_before_it_stands(self):
        for number in (0, 1, -1):
            self.assertIs(accepts_derivation(AB, "", (("", (("step", number, 1),)),)), False)
        self.assertIs(accepts_derivation(AB, "", EMPTY + (("", (("step", 1, 1),)),)), False)
        self.assertIs(accepts_derivation(AB, "", (("", (("step", 1, 1),)),) + EMPTY), False)
        self.assertIs(accepts_derivation(AB, "", EMPTY + (("", (("step", 0, 1),)),)), True)

    def test_each_step_has_to_hold(self):
        wrong = (("aa", (("given", 0, 1),)),)
        self.assertIs(accepts_derivation(AB, "a", wrong + BY_HAND), False)
        self.assertIs(accepts_derivation(AB, "a", BY_HAND[:1] + wrong + BY_HAND[1:2] + BY_HAND[2:]), False)
        self.assertIs(accepts_derivation(AB, "aa", BY_HAND + (("aa", (("step", 2, 1),) * 2),)), True)
        self.assertIs(accepts_derivation(AB, "aa", BY_HAND + (("aa", (("step", 2, 1),) * 3),)), False)

    def test_unreduced_words_and_words_of_another_rank(self):
        value = (("abB", (("given", 0, 1), ("given", 1, -1))),)
        self.assertIs(accepts_derivation(AB, "abB", value), False)
        self.assertIs(accepts_derivation(AB, "a", (("a", value[0][1]),)), True)
        for rank in (1, 2):
            family = (rank, ("a",))
            cancelling = (("cC", ()), ("a", (("given", 0, 1),)))
            self.assertIs(accepts_derivation(family, "a", cancelling), False)
            self.assertIs(accepts_derivation(family, "a", (("c", ()), ("a", (("given", 0, 1),)))), False)

    def test_as_many_steps_as_are_let(self):
        family = (1, ("",))
        for many, right in ((0, False), (1, True), (99, True), (100, True), (101, False), (150, False)):
            value = chain_of(many) if many else ()
            self.assertEqual(len(value), many)
            self.assertIs(accepts_derivation(family, "", value), right)

    def test_as_many_letters_as_are_let(self):
        for many, right in ((99, True), (100, True), (101, False), (200, False)):
            value = one_letter(many) + (("a", (("step", 0, 1),) + (("given", 0, -1),) * (many - 1)),)
            self.assertIs(accepts_derivation((1, ("a",)), "a", value), right)

    def test_as_many_factors_as_are_let(self):
        for many, right in ((1999, True), (2000, True), (2001, False), (2002, False)):
            factors = ((("given", 0, 1), ("given", 0, -1)) * 1001)[:many]
            word = "a" * (many % 2)
            self.assertEqual(plain_product(("a",), (), factors), word)
            self.assertIs(accepts_derivation((1, ("a",)), word, ((word, factors),)), right)
            self.assertIs(accepts_derivation((1, ("",)), "", (("", (("given", 0, 1),) * many),)), right)

    def test_the_greatest_derivation(self):
        word = "ab" * 50
        steps = [(word, (("given", 0, 1),) * 50)]
        for at in range(98):
            steps.append((word, (("step", at, 1),) * 1000 + (("step", at, -1),) * 999))
        last = ("ab", (("given", 0, 1),))
        self.assertIs(accepts_derivation((2, ("ab",)), "ab", (*steps, last)), True)
        self.assertIs(accepts_derivation((2, ("ab",)), "ab", (*steps[:-1], (word[:-2], steps[-1][1]), last)), False)

    def test_values_of_every_other_kind(self):
        check_odd_forms(self, lambda value: accepts_derivation(AB, "a", value), BY_HAND)
        for version in part_by_part(BY_HAND, (None, "", "c", "C", 2)):
            self.assertIs(accepts_derivation(AB, "a", version), False)
        for value in part_by_part(EMPTY, NEVER + (None, 0, 1)) + with_lists(EMPTY):
            self.assertIs(accepts_derivation(AB, "", value), False)

    def test_true_is_no_1(self):
        for factor in (("given", 1, True), ("given", True, 1), ("given", 1, 1.0), ("given", 1.0, 1)):
            self.assertIs(accepts_derivation(AB, "b", (("b", (factor,)),)), False)
        self.assertIs(accepts_derivation(AB, "ab", (("ab", (("given", False, 1),)),)), False)
        self.assertIs(accepts_derivation(AB, "b", (("b", (("given", 1, 1),)),)), True)

    def test_no_given_words(self):
        for sign in (1, -1):
            self.assertIs(accepts_derivation((2, ()), "", (("", (("given", 0, sign),)),)), False)
            self.assertIs(accepts_derivation((2, ()), "a", (("a", (("given", 0, sign),)),)), False)
        self.assertIs(accepts_derivation((2, ()), "aA", EMPTY), True)

    def test_further_given_words(self):
        for rank, given in SOME:
            for value in some_derivations((rank, given), 6, 50):
                if len(last_word(value)) <= 24:
                    for more in [("a",), ("",), ("aAa", "A"), given][:4 if len(given) < 3 else 0]:
                        self.assertIs(accepts_derivation((rank, given + more), last_word(value), value), True)

    def test_wrong_arguments(self):
        for value in (BY_HAND, EMPTY, None, [], "ab", ((),)):
            for family in EDGES:
                check_wrong_arguments(
                    self, lambda told, word: accepts_derivation(told, word, value),
                    ("family", family, NO_FAMILIES), ("word", "aA", no_words(family[0])))


class DerivationFor(TestCase):
    def check(self, family, word):
        """Check that there is a good derivation exactly if the word belongs."""
        value = derivation_for(family, word)
        self.assertEqual(value is not None, plain_belongs(family, word))
        if value is not None:
            self.assertIs(accepts_derivation(family, word, value), True)
            self.assertTrue(plain_accepts(family, word, value))
            self.assertLessEqual(len(value), plain_petals(family)[0] + 1)

    def test_words_that_belong(self):
        for family in FAMILIES + EDGES:
            for word in some_products(family, 8, 43):
                self.assertIsNotNone(derivation_for(family, word))
                self.check(family, word)

    def test_words_that_may_belong(self):
        for family in FAMILIES + EDGES:
            for word in some_words(8, family[0], 24, 47):
                self.check(family, word)

    def test_all_short_words(self):
        for family in some_families(20, 2, 48) + [AB, (2, ("aa", "bb")), (2, ("abA", "bb")), (2, ())]:
            for word in all_words(2, 3):
                self.check(family, word)

    def test_the_empty_word(self):
        for family in FAMILIES + EDGES:
            for word in ("", "aA", "AaaA"):
                self.assertIs(accepts_derivation(family, word, derivation_for(family, word)), True)

    def test_words_of_24_letters(self):
        told = 0
        for family in EDGES + [(1, ("a",)), (2, ("a", "b")), (3, ("abc", "b", "c")), (2, ("ab", "ba", "aa", "bb"))]:
            for seed in range(5):
                for word in some_words(3, family[0], 24, seed):
                    word = plain_reduced(word + "ab" * 12)[:24] if family[0] > 1 else "a" * 24
                    self.check(family, word)
                    told += len(word) == 24 and derivation_for(family, word) is not None
        self.assertGreater(told, 20)

    def test_given_words_unreduced_empty_repeated_or_inverse(self):
        for given in (("abBA", ""), ("aA", "ab", "aabA"), ("ab", "ab", "ab", "BA"), ("aabBA", "AAaA", "a", "bBa"),
                      ("", "", "b", ""), ("BA", "ab", "aA", "ba"), ("abABabAB",) * 4):
            for word in all_words(2, 4):
                self.check((2, given), word)

    def test_families_in_which_everything_is_identified(self):
        for family in ((1, ("a" * 8, "a" * 7)), (1, ("A" * 7, "a" * 5, "a" * 3)), (2, ("aaab", "aab", "b")),
                       (2, ("bBbBb", "bAbaBAb", "BbbaBA", "Bb")), (2, ("abbAbabb", "abaaaaBB", "bbABa", "bABa"))):
            for word in some_words(10, family[0], 24, 49):
                self.assertIsNotNone(derivation_for(family, word))
                self.check(family, word)

    def test_kinds(self):
        value = derivation_for(AB, "abaB")
        for told in (value, value[0], value[0][1], value[0][1][0]):
            self.assertIs(told.__class__, tuple)
        self.assertIs(derivation_for((2, ("aa",)), "a"), None)
        self.assertEqual(value, derivation_for(AB, "abaB"))

    def test_wrong_arguments(self):
        for family in EDGES:
            check_wrong_arguments(
                self, derivation_for, ("family", family, NO_FAMILIES), ("word", "aA", no_words(family[0])))
        family = (3, ("abcabcab", "cbacbacb", "aBcAbCaB", "CCCCCCCC"))
        self.assertIsNotNone(derivation_for(family, "abcabcab" * 3))


class Expansion(TestCase):
    def test_replaced_plainly(self):
        for family in FAMILIES[::3] + EDGES:
            for value in some_derivations(family, 5, 51):
                pairs = plain_pairs(value, len(value) - 1)
                if len(pairs) <= 1000:
                    told = expansion(family, value)
                    self.assertEqual(told, plain_neighbours(pairs))
                    product = "".join(family[1][at] if sign == 1 else plain_inverse(family[1][at]) for at, sign in told)
                    self.assertEqual(stack_reduced(product), last_word(value))

    def test_of_derivations_that_are_told(self):
        for family in SOME:
            for word in some_products(family, 6, 52):
                value = derivation_for(family, word)
                self.assertEqual(expansion(family, value), plain_neighbours(plain_pairs(value, len(value) - 1)))

    def test_inverse_steps_in_the_opposite_order(self):
        value = (("abb", (("given", 0, 1), ("given", 1, 1))), ("BBA", (("step", 0, -1),)))
        self.assertEqual(expansion(AB, value), ((1, -1), (0, -1)))
        self.assertEqual(expansion(AB, value + (("abb", (("step", 1, -1),)),)), ((0, 1), (1, 1)))

    def test_neighbours_are_left_out(self):
        value = (("b", (("given", 1, 1),)), ("", (("given", 0, 1), ("step", 0, 1), ("step", 0, -1), ("given", 0, -1))))
        self.assertEqual(expansion(AB, value), ())
        self.assertEqual(expansion((2, ("b", "b")), (("", (("given", 0, 1), ("given", 1, -1))),)), ((0, 1), (1, -1)))
        self.assertEqual(expansion(AB, EMPTY), ())

    def test_1000_and_1001_pairs(self):
        family = (1, ("", "aA"))
        ten = ("", (("given", 0, 1),) * 10)
        hundred = ("", (("step", 0, 1),) * 10)
        for at_most in (1000, 999):
            value = (ten, hundred, ("", (("step", 1, 1),) * 9 + (("given", 0, 1),) * (at_most - 900)))
            self.assertEqual(expansion(family, value), ((0, 1),) * at_most)
        thousand = (ten, hundred, ("", (("step", 1, 1),) * 10))
        self.assertEqual(expansion(family, thousand), ((0, 1),) * 1000)
        for more in ((("given", 1, 1),), (("given", 0, -1),), (("step", 0, -1),)):
            self.check_too_large(family, thousand + (("", (("step", 2, 1),) + more),))
        self.assertEqual(expansion(family, thousand + (("", (("step", 2, -1),)),)), ((0, -1),) * 1000)
        self.check_too_large(family, (("", (("given", 0, 1),) * 1001),))
        self.assertEqual(len(expansion(family, (("", (("given", 0, 1),) * 1000),))), 1000)

    def check_too_large(self, family, value):
        """Check that the expansion is too large."""
        with self.assertRaises(TooLarge) as caught:
            expansion(family, value)
        self.assertEqual(caught.exception.what, "expansion")

    def test_neighbours_count_before_they_are_left_out(self):
        for many, right in ((500, True), (501, False)):
            value = (("", (("given", 0, 1), ("given", 0, -1)) * many),)
            if right:
                self.assertEqual(expansion((1, ("a",)), value), ())
            else:
                self.check_too_large((1, ("a",)), value)
        steps = [("", (("given", 0, 1), ("given", 0, -1)))]
        for at in range(99):
            steps.append(("", (("step", at, 1), ("step", at, -1))))
        self.check_too_large((1, ("a",)), tuple(steps))
        self.assertEqual(expansion((1, ("a",)), tuple(steps[:9])), ())
        self.check_too_large((1, ("a",)), tuple(steps[:10]))

    def test_only_what_is_needed_counts(self):
        great = ("", (("given", 0, 1),) * 2000)
        self.assertEqual(expansion((1, ("",)), (great, great, ("", (("given", 0, 1),)))), ((0, 1),))
        self.check_too_large((1, ("",)), (great, ("", (("step", 0, 1),))))

    def test_steps_without_factors_that_are_named_again_and_again(self):
        steps = list(EMPTY) + [("", (("step", at, 1),) * 2000) for at in range(99)]
        self.assertEqual(expansion((1, ()), tuple(steps)), ())


class Trimmed(TestCase):
    def test_only_needed_steps(self):
        for family in FAMILIES[::3] + EDGES:
            for value in some_derivations(family, 5, 53):
                told = trimmed(family, value)
                self.assertEqual(told, plain_trimmed(value))
                self.assertEqual(trimmed(family, told), told)
                if len(last_word(value)) <= 24:
                    self.assertIs(accepts_derivation(family, last_word(value), told), True)

    def test_by_hand(self):
        self.assertEqual(trimmed(AB, BY_HAND), BY_HAND)
        self.assertEqual(trimmed(AB, BY_HAND[:2]), BY_HAND[1:2])
        more = BY_HAND + (("bb", (("step", 1, 1), ("step", 1, 1))),)
        self.assertEqual(
            trimmed(AB, more), (("b", (("given", 1, 1),)), ("bb", (("step", 0, 1), ("step", 0, 1)))))
        self.assertEqual(trimmed(AB, BY_HAND + EMPTY), EMPTY)

    def test_steps_that_only_unneeded_steps_name(self):
        value = BY_HAND + (("A", (("step", 2, -1),)), ("bb", (("step", 1, 1),) * 2))
        self.assertEqual(len(trimmed(AB, value)), 2)

    def test_100_steps(self):
        self.assertEqual(trimmed((1, ("",)), chain_of(100)), chain_of(100))


class JoinedAndInverted(TestCase):
    def test_steps(self):
        for family in FAMILIES[::3] + EDGES:
            values = some_derivations(family, 6, 54)
            for first, second in zip(values, values[1:] + values[:1]):
                self.check_joined(family, first, second)
                self.check_inverted(family, first)

    def check_joined(self, family, first, second):
        """Check the joined derivation against point 48."""
        if len(stack_reduced(last_word(first) + last_word(second))) > 100:
            return
        value = joined(family, first, second)
        many = len(first)
        self.assertEqual(value[:many], first)
        moved = tuple(
            (word, tuple((kind, number + many if kind == "step" else number, sign) for kind, number, sign in factors))
            for word, factors in second)
        self.assertEqual(value[many:-1], moved)
        factors = (("step", many - 1, 1), ("step", many + len(second) - 1, 1))
        self.assertEqual(value[-1], (stack_reduced(last_word(first) + last_word(second)), factors))
        if len(last_word(value)) <= 24:
            self.assertIs(accepts_derivation(family, last_word(value), value), True)

    def check_inverted(self, family, first):
        """Check the inverted derivation against point 48."""
        value = inverted(family, first)
        self.assertEqual(value[:-1], first)
        self.assertEqual(value[-1], (plain_inverse(last_word(first)), (("step", len(first) - 1, -1),)))
        if len(last_word(value)) <= 24:
            self.assertIs(accepts_derivation(family, last_word(value), value), True)

    def test_accepted_for_the_words_joined_and_the_inverse(self):
        for family in SOME:
            words = some_products(family, 5, 55)
            for first, second in zip(words, words[1:]):
                one, other = derivation_for(family, first), derivation_for(family, second)
                if len(first + second) <= 24:
                    self.assertIs(accepts_derivation(family, first + second, joined(family, one, other)), True)
                self.assertIs(accepts_derivation(family, plain_inverse(first), inverted(family, one)), True)

    def check_too_large(self, function, *arguments):
        """Check that there are too many steps."""
        with self.assertRaises(TooLarge) as caught:
            function(*arguments)
        self.assertEqual(caught.exception.what, "steps")

    def test_100_and_101_steps(self):
        family = (1, ("",))
        for first, second in ((1, 98), (98, 1), (50, 49), (49, 50)):
            value = joined(family, chain_of(first), chain_of(second))
            self.assertEqual(len(value), 100)
            self.assertIs(accepts_derivation(family, "", value), True)
            self.check_too_large(joined, family, chain_of(first + 1), chain_of(second))
            self.check_too_large(joined, family, chain_of(first), chain_of(second + 1))
        self.check_too_large(joined, family, chain_of(100), chain_of(100))
        self.assertEqual(len(inverted(family, chain_of(99))), 100)
        self.check_too_large(inverted, family, chain_of(100))

    def test_last_words_of_100_and_101_letters(self):
        family = (1, ("a",))
        for first, second in ((50, 50), (100, 0), (1, 99)):
            self.assertEqual(last_word(joined(family, one_letter(first), one_letter(second))), "a" * 100)
            self.check_too_large(joined, family, one_letter(first), one_letter(second + 1))
        self.check_too_large(joined, family, one_letter(100), one_letter(100))
        back = inverted(family, one_letter(100))
        self.assertEqual(last_word(joined(family, one_letter(100), back)), "")
        self.assertEqual(last_word(joined(family, back, one_letter(100))), "")


class WrongArguments(TestCase):
    def no_derivations(self, family):
        """Return values that are no derivations for the family all of whose steps hold."""
        wrong = NO_TUPLES + ((), ((),), (None,), ("",), (("",),), (("", (), ()),), (["", ()],), (("", []),), [("", ())])
        wrong += ((("a", ()),), (("aA", ()),), (("", (("given", 4, 1),)),), (("", (("step", 0, 1),)),), chain_of(101))
        wrong += (EMPTY + (("a", ()),), (("A", ()),) + EMPTY, EMPTY * 101, (("", (("step", 0, 1),) * 2001),))
        if family[1]:
            word = plain_reduced(family[1][0])
            wrong += (((word + "a", (("given", 0, 1),)),), ((word, (("given", False, 1),)),))
            wrong += (((word, (("given", 0, True),)),),)
        return wrong

    def test_value(self):
        for family in EDGES[:8]:
            for function in (expansion, trimmed, inverted):
                good = (EMPTY, derivation_for(family, "aA"))[len(family[1]) % 2]
                check_wrong_arguments(
                    self, function, ("family", family, NO_FAMILIES), ("value", good, self.no_derivations(family)))

    def test_first_and_second(self):
        for family in EDGES[:8]:
            wrong = self.no_derivations(family)
            check_wrong_arguments(
                self, joined, ("family", family, NO_FAMILIES), ("first", EMPTY, wrong), ("second", EMPTY, wrong))

    def test_a_wrong_value_comes_before_what_is_too_large(self):
        family = (1, ("",))
        check_wrong_arguments(self, joined, ("family", family, NO_FAMILIES), ("first", EMPTY, (chain_of(101),)),
                              ("second", EMPTY, (chain_of(101), chain_of(99) + (("a", ()),))))

    def test_arguments_are_left_as_they_are(self):
        value = [list(step) for step in BY_HAND]
        self.assertIs(accepts_derivation(AB, "a", value), False)
        self.assertEqual(value, [list(step) for step in BY_HAND])
        self.assertTrue(all(is_reduced(word) for word, _ in value))
