"""foldedways.answers: points [63] to [65], [68], [69]."""

from unittest import TestCase

from foldedways.actions import returns
from foldedways.answers import accepts_answer, answer_for
from foldedways.completing import action_against
from foldedways.derivations import accepts_derivation, derivation_for
from tests.plain import plain_inverse, plain_reduced, some_words
from tests.plain_actions import some_actions
from tests.plain_completing import plain_belongs, plain_is_against
from tests.plain_derivations import plain_accepts, some_derivations
from tests.plain_graphs import some_families
from tests.test_folding import EDGES, FAMILIES, NO_FAMILIES
from tests.test_graphs import some_products
from tests.wrong import check_odd_forms, check_wrong_arguments, no_words, without_a_part

SOME = FAMILIES[::6] + EDGES
SQUARES = (2, ("aa", "bb"))
MEMBER = ("member", (("aabb", (("given", 0, 1), ("given", 1, 1))),))
NONE = ("none", ((1, 0, 2), (0, 2, 1)))


def words_for(family, seed):
    """Return words, of which some belong to the family and some may not."""
    return some_words(5, family[0], 16, seed) + some_products(family, 5, seed) + ["", "a", "aA"]


class AnswerFor(TestCase):
    def test_member_or_none(self):
        for family in FAMILIES + EDGES:
            for word in words_for(family, 63):
                answer = answer_for(family, word)
                kind, evidence = answer
                self.assertEqual(kind, "member" if plain_belongs(family, word) else "none")
                self.assertIs(accepts_answer(family, word, answer), True)
                if kind == "member":
                    self.assertTrue(plain_accepts(family, word, evidence))
                    self.assertEqual(evidence, derivation_for(family, word))
                else:
                    self.assertTrue(plain_is_against(family, [word], evidence))
                    self.assertEqual(evidence, action_against(family, word))

    def test_the_inverse_and_the_reduced_form(self):
        for family in SOME:
            for word in words_for(family, 65):
                kind = answer_for(family, word)[0]
                self.assertEqual(answer_for(family, plain_inverse(word))[0], kind)
                self.assertEqual(answer_for(family, plain_reduced(word)), answer_for(family, word))

    def test_words_joined(self):
        for family in SOME:
            words = [word for word in words_for(family, 66) if len(word) <= 12]
            for first, second in zip(words, words[1:] + words[:1]):
                one, other = plain_belongs(family, first), plain_belongs(family, second)
                if one or other:
                    kind = answer_for(family, first + second)[0]
                    self.assertEqual(kind, "member" if one and other else "none")

    def test_words_that_belong_return_where_all_given_words_do(self):
        returning = 0
        for family in some_families(30, 2, 65):
            for action in some_actions(12, 2, 3, 65):
                if all(returns(action, word) for word in family[1]):
                    for word in some_products(family, 5, 66):
                        self.assertIs(returns(action, word), True)
                        returning += 1
        self.assertGreater(returning, 100)

    def test_kinds(self):
        for word in ("aabb", "ab"):
            kind, evidence = answer_for(SQUARES, word)
            self.assertEqual((kind.__class__, evidence.__class__), (str, tuple))
            self.assertIs(answer_for(SQUARES, word).__class__, tuple)

    def test_wrong_arguments(self):
        for family in EDGES:
            for word in ("aA", "a" * 24):
                check_wrong_arguments(
                    self, answer_for, ("family", family, NO_FAMILIES), ("word", word, no_words(family[0])))


class AcceptsAnswer(TestCase):
    def test_exactly_one_kind_is_accepted(self):
        for family in SOME:
            derivations = some_derivations(family, 4, 67)
            actions = [action for points in (1, 2, 3) for action in some_actions(4, family[0], points, points)]
            for word in words_for(family, 67):
                values = [("member", told) for told in derivations + [derivation_for(family, word)]]
                values += [("none", told) for told in actions + [action_against(family, word)]]
                kinds = {value[0] for value in values if accepts_answer(family, word, value)}
                self.assertEqual(kinds, {"member" if plain_belongs(family, word) else "none"})

    def test_answers_of_other_words(self):
        for family in SOME:
            words = words_for(family, 68)
            for word, other in zip(words, words[1:] + words[:1]):
                kind, evidence = answer = answer_for(family, other)
                if kind == "member":
                    accepted = plain_reduced(word) == plain_reduced(other)
                else:
                    accepted = plain_is_against(family, [word], evidence)
                self.assertIs(accepts_answer(family, word, answer), accepted)

    def test_kinds_exchanged(self):
        for family in SOME:
            for word in words_for(family, 69):
                kind, evidence = answer_for(family, word)
                for other in ({"member": "none", "none": "member"}[kind], "", "Member", "members", "no", "given"):
                    self.assertIs(accepts_answer(family, word, (other, evidence)), False)

    def test_the_inverse_and_the_reduced_form(self):
        for family in SOME:
            for word in words_for(family, 70):
                answer = answer_for(family, word)
                self.assertIs(accepts_answer(family, plain_reduced(word), answer), True)
                back = accepts_answer(family, plain_inverse(word), answer)
                # In an action a word returns exactly if its inverse does.
                self.assertIs(back, answer[0] == "none" or plain_reduced(word) == "")

    def test_spoilt_answers(self):
        for word, answer in (("aabb", MEMBER), ("ab", NONE), ("aaB", answer_for(SQUARES, "aaB"))):
            self.assertIs(accepts_answer(SQUARES, word, answer), True)
            for version in without_a_part(answer):
                if len(version) == 2 and isinstance(version[1], tuple) and version[1] and version[0] == "member":
                    accepted = all(len(step) == 2 for step in version[1])
                    accepted = accepted and accepts_derivation(SQUARES, word, version[1])
                    self.assertIs(accepts_answer(SQUARES, word, version), accepted)
                else:
                    self.assertIs(accepts_answer(SQUARES, word, version), False)

    def test_values_of_every_other_kind(self):
        check_odd_forms(self, lambda value: accepts_answer(SQUARES, "aabb", value), MEMBER)
        check_odd_forms(self, lambda value: accepts_answer(SQUARES, "ab", value), NONE)
        for value in (("member", None), ("none", None), ("member", ()), ("none", ()), ("member", NONE[1]), "member",
                      ("none", MEMBER[1]), ("none",), ("member", MEMBER[1], 1), MEMBER[1], NONE[1], (None, None)):
            for word in ("aabb", "ab", ""):
                self.assertIs(accepts_answer(SQUARES, word, value), False)

    def test_further_given_words_that_belong(self):
        for rank, given in SOME:
            for more in [word for word in some_products((rank, given), 8, 71) if len(word) <= 8][:2]:
                if len(given) == 4:
                    continue
                further = (rank, given + (more,))
                for word in words_for(further, 71):
                    answer, later = answer_for((rank, given), word), answer_for(further, word)
                    self.assertIs(accepts_answer(further, word, answer), True)
                    self.assertEqual(later[0], answer[0])
                    if later[0] == "none":
                        self.assertIs(accepts_answer((rank, given), word, later), True)

    def test_further_given_words_that_do_not_belong(self):
        for rank, given in SOME:
            for more in some_words(3, rank, 8, 72):
                if len(given) == 4 or plain_belongs((rank, given), more):
                    continue
                further = (rank, given + (more,))
                self.assertIs(accepts_answer(further, more, answer_for((rank, given), more)), False)
                self.assertEqual(answer_for(further, more)[0], "member")
                for word in words_for((rank, given), 72):
                    answer = answer_for((rank, given), word)
                    if answer[0] == "member":
                        self.assertIs(accepts_answer(further, word, answer), True)

    def test_wrong_arguments(self):
        for value in (MEMBER, NONE, None, [], ("none",)):
            for family in EDGES:
                check_wrong_arguments(
                    self, lambda told, word: accepts_answer(told, word, value),
                    ("family", family, NO_FAMILIES), ("word", "aA", no_words(family[0])))
