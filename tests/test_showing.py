"""foldedways.showing: points [97], [99] to [101] and [103]."""

from unittest import TestCase

from foldedways.answers import answer_for
from foldedways.comparing import telling_word
from foldedways.completing import action_against, full_action
from foldedways.derivations import derivation_for, inverted
from foldedways.showing import (
    accepts_apart, accepts_common, accepts_contained, accepts_equal, accepts_outside, common_evidence,
    contained_evidence, outside_evidence)
from tests.plain import plain_inverse, plain_reduced, some_words
from tests.plain_actions import some_actions
from tests.plain_completing import plain_is_against
from tests.plain_derivations import plain_accepts, some_derivations
from tests.plain_pairs import graph_told, is_member
from tests.test_comparing import BY_HAND, PAIRS, no_others
from tests.test_folding import EDGES, NO_FAMILIES
from tests.test_graphs import some_products
from tests.wrong import check_odd_forms, check_wrong_arguments, no_words, without_a_part

SOME = BY_HAND + PAIRS[len(BY_HAND)::5]
SQUARES = (2, ("aa", "bb"))
EVEN = (2, ("aa", "ab", "bb"))
ONE, OTHER = (2, ("aa", "b")), (2, ("a", "bb"))
CUBES = (1, ("aaa",))


def is_within(family, other):
    """Tell if all given words of the one belong to the other one."""
    return all(is_member(other, word) for word in family[1])


def equal_evidence(family, other):
    """Return evidence that two families are equal."""
    return contained_evidence(family, other), contained_evidence(other, family)


def apart_evidence(family, other, word):
    """Return the told answers of both families for a word."""
    return answer_for(family, word), answer_for(other, word)


def words_for(pair, seed):
    """Return words, of which some belong to one of the families or to both."""
    (rank, given), other = pair
    common = [word for word in some_products((rank, given + other[1]), 4, seed)]
    return some_words(4, rank, 10, seed) + some_products((rank, given), 3, seed) + common + ["", "a", "aA"]


class ContainedEvidence(TestCase):
    def test_exactly_if_contained(self):
        for family, other in PAIRS:
            evidence = contained_evidence(family, other)
            self.assertEqual(evidence is not None, is_within(family, other))
            if evidence is not None:
                self.assertEqual(len(evidence), len(family[1]))
                for word, told in zip(family[1], evidence):
                    self.assertTrue(plain_accepts(other, word, told))
                    self.assertEqual(told, derivation_for(other, word))
                self.assertIs(accepts_contained(family, other, evidence), True)

    def test_evidence_of_other_pairs(self):
        accepted = refused = 0
        for family, other in SOME:
            for third, fourth in SOME:
                evidence = contained_evidence(third, fourth)
                if evidence is not None and third[0] == family[0]:
                    told = self.is_right(family, other, evidence)
                    self.assertIs(accepts_contained(family, other, evidence), told)
                    if told:
                        self.assertTrue(is_within(family, other))
                    accepted += told
                    refused += not told
        self.assertGreater(accepted, 20)
        self.assertGreater(refused, 100)

    def is_right(self, family, other, evidence):
        """Judge evidence that has the form of such: one derivation for each given word."""
        if len(evidence) != len(family[1]):
            return False
        return all(plain_accepts(other, word, told) for word, told in zip(family[1], evidence))

    def test_whoever_wrote_it(self):
        for family, other in SOME:
            made = some_derivations(other, 30, 97)
            by_word = {told[-1][0]: told for told in made}
            evidence = tuple(by_word.get(plain_reduced(word), made[0]) for word in family[1])
            told = self.is_right(family, other, evidence)
            self.assertIs(accepts_contained(family, other, evidence), told)

    def test_left_out_exchanged_spoilt(self):
        given = SQUARES[1]
        first, second = evidence = contained_evidence(SQUARES, EVEN)
        self.assertIs(accepts_contained(SQUARES, EVEN, evidence), True)
        longer = inverted(EVEN, inverted(EVEN, first))
        self.assertIs(accepts_contained(SQUARES, EVEN, (longer, second)), True)
        for value in ((second, first), (first,), (second,), (), (first, first), (second, second), (first, second, second),
                      (first, second, ()), (first, ()), (inverted(EVEN, first), second), (first, None), first, (evidence,),
                      (first + second, second), (first[0], second), None, [first, second], (first, list(second))):
            self.assertIs(accepts_contained(SQUARES, EVEN, value), False)
        self.assertIs(accepts_contained((2, given[::-1]), EVEN, evidence), False)
        self.assertIs(accepts_contained((2, given[::-1]), EVEN, evidence[::-1]), True)
        self.assertIs(accepts_contained(EVEN, SQUARES, evidence), False)
        for version in without_a_part(evidence):
            right = all(plain_accepts(EVEN, word, told) for word, told in zip(given, version)
                        ) if self.has_form(version) else False
            self.assertIs(accepts_contained(SQUARES, EVEN, version), right)

    def has_form(self, value):
        """Tell if the value is a pair of tuples of steps, which are pairs, and of factors, which are triples."""
        return len(value) == 2 and all(
            len(step) == 2 and all(len(factor) == 3 for factor in step[1]) for told in value for step in told)

    def test_no_given_words(self):
        for rank in (1, 2, 3):
            self.assertEqual(contained_evidence((rank, ()), (rank, ("a",))), ())
            self.assertIs(accepts_contained((rank, ()), (rank, ("a",)), ()), True)
            for value in (((),), None, [], "", ((("", ()),),), False, 0):
                self.assertIs(accepts_contained((rank, ()), (rank, ("a",)), value), False)
            self.assertIs(accepts_contained((rank, ("",)), (rank, ()), ((("", ()),),)), True)
            self.assertIs(accepts_contained((rank, ("",)), (rank, ()), ()), False)

    def test_values_of_every_other_kind(self):
        for family, other in ((SQUARES, EVEN), (ONE, (2, ("b", "a"))), ((1, ("aaaa",)), (1, ("aa",)))):
            evidence = contained_evidence(family, other)
            check_odd_forms(self, lambda value: accepts_contained(family, other, value), evidence)

    def test_kinds(self):
        self.assertIs(contained_evidence(SQUARES, EVEN).__class__, tuple)
        self.assertIs(contained_evidence(EVEN, SQUARES), None)


class OutsideEvidence(TestCase):
    def test_the_first_given_word_and_the_told_action(self):
        for family, other in PAIRS:
            evidence = outside_evidence(family, other)
            outside = [index for index, word in enumerate(family[1]) if not is_member(other, word)]
            if not outside:
                self.assertIs(evidence, None)
            else:
                index, action = evidence
                self.assertEqual(index, outside[0])
                self.assertEqual(action, action_against(other, family[1][index]))
                self.assertTrue(plain_is_against(other, [family[1][index]], action))
                self.assertIs(accepts_outside(family, other, evidence), True)

    def test_either_this_or_contained(self):
        for family, other in PAIRS:
            self.assertNotEqual(outside_evidence(family, other) is None, contained_evidence(family, other) is None)

    def test_each_index_and_drawn_actions(self):
        accepted = 0
        for family, other in SOME:
            rank, given = family
            actions = [action for points in (1, 2, 3) for action in some_actions(5, rank, points, 97)]
            actions += [full_action(other)] + [told for told in [action_against(other, "a")] if told]
            for index in range(-5, 6):
                for action in actions:
                    right = 0 <= index < len(given) and plain_is_against(other, [given[index]], action)
                    self.assertIs(accepts_outside(family, other, (index, action)), right)
                    if right:
                        self.assertFalse(is_within(family, other))
                        accepted += 1
        self.assertGreater(accepted, 30)

    def test_other_pairs(self):
        for family, other in SOME:
            for third, fourth in SOME:
                evidence = outside_evidence(third, fourth)
                if evidence is not None and third[0] == family[0]:
                    index, action = evidence
                    right = index < len(family[1]) and plain_is_against(other, [family[1][index]], action)
                    self.assertIs(accepts_outside(family, other, evidence), right)

    def test_any_given_word_that_does_not_belong(self):
        family = (2, ("aa", "b", "ab", ""))
        for index, word in ((1, "b"), (2, "ab")):
            evidence = index, action_against(OTHER, word)
            self.assertIs(accepts_outside(family, OTHER, evidence), True)
            for other in (0, 3, 4, -1, -2, True, None, "1", 1.0):
                self.assertIs(accepts_outside(family, OTHER, (other, evidence[1])), False)

    def test_by_hand(self):
        self.assertEqual(outside_evidence(ONE, OTHER), (1, ((0, 1), (1, 0))))
        for value in ((1, ((0, 1), (0, 1))), (0, ((0, 1), (1, 0))), (1, ((1, 0), (0, 1))), (1, ((0, 1),)), (1, None),
                      (1, ((0, 1), (1, 0)), 1), (1,), (((0, 1), (1, 0)), 1), (True, ((0, 1), (1, 0))), ((1,), 1)):
            self.assertIs(accepts_outside(ONE, OTHER, value), False)
        self.assertIs(accepts_outside((2, ()), OTHER, (0, ((0, 1), (1, 0)))), False)

    def test_values_of_every_other_kind(self):
        for family, other in ((ONE, OTHER), (EVEN, SQUARES), ((2, ("ab",)), (2, ()))):
            evidence = outside_evidence(family, other)
            check_odd_forms(self, lambda value: accepts_outside(family, other, value), evidence)

    def test_kinds(self):
        index, action = outside_evidence(EVEN, SQUARES)
        self.assertEqual((index, action.__class__), (1, tuple))


class Equal(TestCase):
    def test_exactly_if_equal(self):
        for family, other in PAIRS:
            evidence = equal_evidence(family, other)
            equal = graph_told(family) == graph_told(other)
            self.assertIs(accepts_equal(family, other, evidence), equal)
            self.assertIs(accepts_equal(other, family, evidence[::-1]), equal)

    def test_exchanged_or_left_out(self):
        family, other = (2, ("aa", "ab")), (2, ("ab", "Ab"))
        there, back = evidence = equal_evidence(family, other)
        self.assertIs(accepts_equal(family, other, evidence), True)
        for value in ((back, there), (there, there), (back, back), (there,), (there, back, back), (there, None), there,
                      (None, back), [there, back], (list(there), back), (there, back[:1]), (there[1:], back), (), None,
                      (there[::-1], back), (there, back[::-1]), (there, ()), ((), back), ((), ()), (there + back, ())):
            self.assertIs(accepts_equal(family, other, value), False)
        self.assertIs(accepts_equal(other, family, evidence), False)
        self.assertIs(accepts_equal(other, family, (back, there)), True)

    def test_one_way_alone(self):
        there = contained_evidence(SQUARES, EVEN)
        self.assertIs(accepts_equal(SQUARES, EVEN, (there, there)), False)
        for back in (None, (), there + there[:1], ((("aa", (("given", 0, 1),)),),) * 3):
            self.assertIs(accepts_equal(SQUARES, EVEN, (there, back)), False)
            self.assertIs(accepts_equal(EVEN, SQUARES, (back, there)), False)

    def test_other_pairs(self):
        pairs = [pair for pair in SOME if graph_told(pair[0]) == graph_told(pair[1])]
        self.assertGreater(len(pairs), 10)
        for third, fourth in pairs:
            evidence = equal_evidence(third, fourth)
            for family, other in SOME:
                if family[0] == third[0] and accepts_equal(family, other, evidence):
                    self.assertEqual(graph_told(family), graph_told(other))

    def test_values_of_every_other_kind(self):
        for family, other in (((2, ("aa", "ab")), (2, ("ab", "Ab"))), (CUBES, CUBES)):
            evidence = equal_evidence(family, other)
            check_odd_forms(self, lambda value: accepts_equal(family, other, value), evidence)

    def test_no_given_words(self):
        self.assertIs(accepts_equal((2, ()), (2, ()), ((), ())), True)
        self.assertIs(accepts_equal((2, ("aA",)), (2, ()), (((("", ()),),), ())), True)
        self.assertIs(accepts_equal((2, ("a",)), (2, ()), ((), ())), False)


class Apart(TestCase):
    def test_told_answers_of_telling_words(self):
        for family, other in PAIRS:
            word = telling_word(family, other)
            if word is not None and len(word) <= 24:
                evidence = apart_evidence(family, other, word)
                self.assertIs(accepts_apart(family, other, word, evidence), True)
                self.assertIs(accepts_apart(other, family, word, evidence[::-1]), True)

    def test_told_answers_of_all_words(self):
        for pair in SOME:
            family, other = pair
            for word in words_for(pair, 99):
                evidence = apart_evidence(family, other, word)
                told = is_member(family, word) != is_member(other, word)
                self.assertIs(accepts_apart(family, other, word, evidence), told)
                self.assertIs(accepts_apart(family, other, plain_reduced(word), evidence), told)
                self.assertIs(accepts_apart(family, other, word, (evidence[0], evidence[0])), False)
                self.assertIs(accepts_apart(family, other, word, (evidence[1], evidence[1])), False)

    def test_exactly_one_of_equal_and_apart(self):
        for pair in SOME:
            family, other = pair
            equal = accepts_equal(family, other, equal_evidence(family, other))
            words = words_for(pair, 101) + list(family[1] + other[1])
            apart = any(accepts_apart(family, other, word, apart_evidence(family, other, word)) for word in words)
            self.assertNotEqual(equal, apart)

    def test_evidence_of_other_words_and_families(self):
        for pair in SOME:
            family, other = pair
            words = words_for(pair, 100)
            for word, told in zip(words, words[1:]):
                for third, fourth in (pair, (other, family), (family, family)):
                    evidence = apart_evidence(third, fourth, told)
                    if accepts_apart(family, other, word, evidence):
                        self.assertNotEqual(is_member(family, word), is_member(other, word))

    def test_words_of_100_letters(self):
        member = ("member", (("a" * 99, (("given", 0, 1),) * 33),))
        none = ("none", ((1, 0),))
        self.assertIs(accepts_apart(CUBES, (1, ("aa",)), "a" * 99, (member, none)), True)
        self.assertIs(accepts_apart((1, ("aa",)), CUBES, "a" * 99, (none, member)), True)
        self.assertIs(accepts_apart(CUBES, (1, ("aa",)), "a" * 99, (none, member)), False)
        member = ("member", (("a" * 100, (("given", 0, 1),) * 50),))
        none = ("none", ((1, 2, 0),))
        self.assertIs(accepts_apart(CUBES, (1, ("aa",)), "a" * 100, (none, member)), True)
        self.assertIs(accepts_apart(CUBES, (1, ("aa",)), "A" * 100, (none, member)), False)
        self.assertIs(accepts_apart(CUBES, (1, ("aa",)), "aA" * 49 + "aa", (none, member)), False)
        member = ("member", (("aa", (("given", 0, 1),)),))
        self.assertIs(accepts_apart(CUBES, (1, ("aa",)), "aA" * 49 + "aa", (none, member)), True)

    def test_the_empty_word(self):
        for family, other in SOME:
            self.assertIs(accepts_apart(family, other, "", apart_evidence(family, other, "")), False)

    def test_both_members_and_neither(self):
        for word, accepted in (("a", True), ("b", True), ("aa", False), ("ab", False), ("abb", True), ("bb", False)):
            evidence = apart_evidence(ONE, OTHER, word)
            self.assertIs(accepts_apart(ONE, OTHER, word, evidence), accepted)
            self.assertEqual(evidence[0][0] != evidence[1][0], accepted)
            for value in (evidence[:1], evidence + evidence[:1], evidence[0], list(evidence), (evidence[0], None),
                          (None, evidence[1]), (), None, (evidence[0][1], evidence[1][1]), ("member", "none")):
                self.assertIs(accepts_apart(ONE, OTHER, word, value), False)
            for kinds in (("member", "none"), ("none", "member"), ("member", "member"), ("none", "none")):
                value = ((kinds[0], evidence[0][1]), (kinds[1], evidence[1][1]))
                self.assertIs(accepts_apart(ONE, OTHER, word, value), accepted and value == evidence)

    def test_values_of_every_other_kind(self):
        for word in ("a", "b", "abb"):
            evidence = apart_evidence(ONE, OTHER, word)
            check_odd_forms(self, lambda value: accepts_apart(ONE, OTHER, word, value), evidence)


class CommonEvidence(TestCase):
    def test_common_or_not(self):
        kinds = []
        for pair in PAIRS:
            family, other = pair
            for word in words_for(pair, 102):
                kind, evidence = told = common_evidence(family, other, word)
                belonging = [is_member(family, word), is_member(other, word)]
                if all(belonging):
                    derivations = derivation_for(family, word), derivation_for(other, word)
                    self.assertEqual(told, ("common", derivations))
                else:
                    which = belonging.index(False)
                    self.assertEqual(told, ("not", (which, action_against(pair[which], word))))
                self.assertIs(accepts_common(family, other, word, told), True)
                kinds.append((kind, evidence[0] if kind == "not" else None))
        self.assertGreater(min(kinds.count(kind) for kind in (("common", None), ("not", 0), ("not", 1))), 50)

    def test_exactly_one_kind_is_accepted(self):
        for pair in SOME:
            family, other = pair
            rank = family[0]
            actions = [action for points in (1, 2, 3) for action in some_actions(4, rank, points, 100)]
            for word in words_for(pair, 103):
                derivations = [derivation_for(one, word) or (("", ()),) for one in pair]
                values = [("common", tuple(derivations)), ("common", tuple(derivations[::-1]))]
                told = [action for action in [action_against(one, word) for one in pair] if action]
                values += [("not", (which, action)) for which in (0, 1) for action in actions + told]
                accepted = set()
                for kind, evidence in values:
                    if kind == "common":
                        right = all(plain_accepts(one, word, given) for one, given in zip(pair, evidence))
                    else:
                        right = plain_is_against(pair[evidence[0]], [word], evidence[1])
                    self.assertIs(accepts_common(family, other, word, (kind, evidence)), right)
                    if right:
                        accepted.add(kind)
                common = is_member(family, word) and is_member(other, word)
                self.assertEqual(accepted, {"common" if common else "not"})

    def test_evidence_of_other_words_and_exchanged_families(self):
        for pair in SOME:
            family, other = pair
            words = words_for(pair, 104)
            for word, told in zip(words, words[1:]):
                kind, evidence = value = common_evidence(family, other, told)
                if kind == "common":
                    right = plain_reduced(word) == plain_reduced(told)
                else:
                    right = plain_is_against(pair[evidence[0]], [word], evidence[1])
                self.assertIs(accepts_common(family, other, word, value), right)
                swapped = (kind, evidence[::-1] if kind == "common" else (1 - evidence[0], evidence[1]))
                self.assertIs(accepts_common(other, family, told, swapped), True)
                self.assertIs(accepts_common(family, other, plain_reduced(told), value), True)

    def test_spoilt(self):
        first, second = common_evidence(ONE, OTHER, "aabb")[1]
        self.assertIs(accepts_common(ONE, OTHER, "aabb", ("common", (first, second))), True)
        for value in (("common", (second, first)), ("common", (first, first)), ("common", (second, second)),
                      ("common", (first,)), ("common", (first, second, second)), ("common", (first, None)),
                      ("common", (None, second)), ("common", [first, second]), ("common", ((), second)),
                      ("Common", (first, second)), ("not", (first, second)), ("member", (first, second)), ("common",),
                      ("", (first, second)), (first, second), ["common", (first, second)], ("common", first, second),
                      ("not", (0, first)), ("common", (first, inverted(OTHER, second)))):
            self.assertIs(accepts_common(ONE, OTHER, "aabb", value), False)
        action = ((1, 0), (0, 1))
        self.assertIs(accepts_common(ONE, OTHER, "a", ("not", (0, action))), True)
        for value in (("not", (1, action)), ("not", (False, action)), ("not", (2, action)), ("not", (-2, action)),
                      ("not", (0, ((0, 1), (1, 0)))), ("not", (0,)), ("not", (0, action, 0)), ("not", action),
                      ("common", (0, action)), ("not", (None, action)), ("not", ("0", action)), ("not", (0.0, action)),
                      ("none", (0, action)), ("not", (0, None)), ("not", [0, action]), ("not", ("none", action)),
                      (0, action), ("not", 0, action)):
            self.assertIs(accepts_common(ONE, OTHER, "a", value), False)

    def test_values_of_every_other_kind(self):
        for word in ("aabb", "a", "b", "ab"):
            evidence = common_evidence(ONE, OTHER, word)
            check_odd_forms(self, lambda value: accepts_common(ONE, OTHER, word, value), evidence)

    def test_no_index_of_the_other_family_from_behind(self):
        self.assertIs(accepts_common(ONE, OTHER, "b", ("not", (1, ((0, 1), (1, 0))))), True)
        for which in (-1, -2, 2, 0):
            self.assertIs(accepts_common(ONE, OTHER, "b", ("not", (which, ((0, 1), (1, 0))))), False)

    def test_kinds(self):
        for word in ("aabb", "a", "b"):
            kind, evidence = common_evidence(ONE, OTHER, word)
            self.assertEqual((kind.__class__, evidence.__class__, len(evidence)), (str, tuple, 2))
        self.assertEqual(common_evidence(ONE, OTHER, "a"), ("not", (0, ((1, 0), (0, 1)))))
        self.assertEqual(common_evidence(ONE, OTHER, "b"), ("not", (1, ((0, 1), (1, 0)))))
        self.assertEqual(common_evidence(ONE, OTHER, "ab")[1][0], 0)


VALUES = (None, (), "a", ((), ()), ("none", ((1, 0),)), [])


class WrongArguments(TestCase):
    def test_two_families(self):
        for family in EDGES:
            rank = family[0]
            for other in ((rank, ()), (rank, ("a" * 8,) * 4)):
                parameters = ("family", family, NO_FAMILIES), ("other", other, no_others(rank))
                for function in (contained_evidence, outside_evidence):
                    check_wrong_arguments(self, function, *parameters)
                for judge in (accepts_contained, accepts_outside, accepts_equal):
                    for value in VALUES:
                        check_wrong_arguments(
                            self, lambda one, two: judge(one, two, value), *parameters)

    def test_two_families_and_a_word(self):
        for family in EDGES:
            rank = family[0]
            other = (rank, ("a" * 8, plain_inverse("a" * 8), "", "aA"))
            for word in ("", "a" * 24, "aA" * 12):
                parameters = ("family", family, NO_FAMILIES), ("other", other, no_others(rank))
                check_wrong_arguments(self, common_evidence, *parameters, ("word", word, no_words(rank)))
                for value in VALUES[:3]:
                    check_wrong_arguments(
                        self, lambda one, two, told: accepts_common(one, two, told, value), *parameters,
                        ("word", word, no_words(rank)))

    def test_two_families_and_a_word_of_100_letters(self):
        for family in EDGES:
            rank = family[0]
            for word in ("", "a" * 100, "aA" * 50):
                parameters = ("family", family, NO_FAMILIES), ("other", (rank, ("a",)), no_others(rank))
                for value in VALUES[:3]:
                    check_wrong_arguments(
                        self, lambda one, two, told: accepts_apart(one, two, told, value), *parameters,
                        ("word", word, no_words(rank, 100)))
