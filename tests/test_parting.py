"""foldedways.parting: points [66], [67], [69]."""

from random import Random
from unittest import TestCase

from foldedways.completing import accepts_action, action_against, full_action
from foldedways.derivations import accepts_derivation, derivation_for
from foldedways.errors import BadValue, TooLarge
from foldedways.parting import accepts_parting, evidence_for, parted, told_against_all
from tests.plain import some_words
from tests.plain_actions import some_actions
from tests.plain_completing import plain_attached, plain_belongs, plain_completed, plain_is_against
from tests.plain_graphs import plain_graph
from tests.test_folding import EDGES, FAMILIES, NO_FAMILIES
from tests.test_graphs import some_products
from tests.wrong import NEVER, NO_TUPLES, check_odd_forms, check_wrong_arguments, no_words, part_by_part, with_lists

SOME = FAMILIES[::6] + EDGES
SQUARES = (2, ("aa", "bb"))
WORDS = ("a", "aa", "b", "bbaa", "ab")
PARTING = ((1, 3), (0, 2, 4))


def lots_of_words(family, many, seed, most=8):
    """Make tuples of 0 to 6 words, of which some belong to the family."""
    chance = Random(seed)
    members = some_products(family, 8, seed)
    tuples = [()]
    for turn in range(many):
        words = some_words(6, family[0], most, seed + turn) + [chance.choice(members) for _ in range(3)]
        chance.shuffle(words)
        tuples.append(tuple(words[:chance.randint(1, 6)]))
    return tuples


def plain_parting(family, words):
    """Return the indexes of the words that belong, and of the others."""
    members = tuple(at for at, word in enumerate(words) if plain_belongs(family, word))
    return members, tuple(at for at in range(len(words)) if at not in members)


def plain_graph_with(family, words):
    """Attach words to the graph of the family, one after another."""
    graph = plain_graph(family)
    for word in words:
        graph, _ = plain_attached(graph, word)
    return graph


def no_tuples_of_words(rank, most):
    """Return values that are no tuples of at most so many words of the rank."""
    wrong = NO_TUPLES + (("a",) * (most + 1), ("",) * (most + 1), ["a"], (("a",),), ("a", None), "a", {"a"})
    wrong += tuple((word,) for word in no_words(rank)) + tuple(("a", word, "") for word in no_words(rank))
    return wrong


class ToldAgainstAll(TestCase):
    def test_attached_one_after_another(self):
        for family in FAMILIES[::2] + EDGES:
            for words in lots_of_words(family, 4, 66):
                graph = plain_graph_with(family, words)
                if any(plain_belongs(family, word) for word in words):
                    self.assertIs(told_against_all(family, words), None)
                elif graph[0] <= 60:
                    action = told_against_all(family, words)
                    self.assertEqual(action, plain_completed(family[0], graph))
                    self.assertTrue(plain_is_against(family, words, action))
                    for word in words:
                        self.assertIs(accepts_action(family, word, action), True)

    def test_one_word_and_none(self):
        for family in SOME:
            self.assertEqual(told_against_all(family, ()), full_action(family))
            for word in some_words(6, family[0], 24, 67) + some_products(family, 3, 67):
                self.assertEqual(told_against_all(family, (word,)), action_against(family, word))

    def test_the_sequence_and_repeated_words(self):
        self.assertEqual(told_against_all(SQUARES, ("a", "b", "ab")), ((1, 0, 2, 3), (2, 3, 0, 1)))
        self.assertEqual(told_against_all((1, ()), ("a", "A")), ((1, 2, 0),))
        self.assertEqual(told_against_all((1, ()), ("A", "a")), ((2, 0, 1),))
        self.assertEqual(told_against_all((1, ()), ("aa", "a", "aa")), ((1, 2, 0),))
        self.assertIs(told_against_all(SQUARES, ("a", "b", "aBbA")), None)
        self.assertIs(told_against_all(SQUARES, ("", "a")), None)

    def check_too_large(self, function, *arguments):
        """Check that the action would have too many points."""
        with self.assertRaises(TooLarge) as caught:
            function(*arguments)
        self.assertEqual(caught.exception.what, "points")

    def test_60_and_61_points(self):
        for rank in (1, 2, 3):
            if rank == 1:
                words = ("a" * 24, "A" * 24)
            else:
                words = ("a" * 24, "b" * 24)
            sixty = words + (("b" + "a" * 11,) if rank > 1 else ())
            action = told_against_all((rank, ()), sixty)
            self.assertEqual(len(action[0]), 60 if rank > 1 else 49)
            self.assertTrue(plain_is_against((rank, ()), sixty, action))
            self.assertEqual(evidence_for((rank, ()), sixty), ((), action))
            if rank > 1:
                more = words + ("b" + "a" * 12,)
                self.check_too_large(told_against_all, (rank, ()), more)
                self.check_too_large(evidence_for, (rank, ()), more)
                self.check_too_large(told_against_all, (rank, ()), sixty + ("A",))
                self.assertEqual(len(told_against_all((rank, ()), sixty + ("ba",))[0]), 60)

    def test_too_many_points_where_a_word_belongs(self):
        words = ("a" * 24, "b" * 24, "A" * 24, "B" * 24)
        for member in ("", "aA"):
            self.assertIs(told_against_all((2, ()), words + (member,)), None)
            self.assertIs(told_against_all((2, ()), (member,) + words), None)
            self.check_too_large(evidence_for, (2, ()), words + (member,))
            self.check_too_large(evidence_for, (2, ()), (member,) + words)
            self.assertEqual(parted((2, ()), words + (member,)), ((4,), (0, 1, 2, 3)))
        words = ("a" * 24, "b" * 24, "A" * 24, "ba" * 12)
        self.assertIs(told_against_all((2, ("bb",)), words), None)
        self.check_too_large(evidence_for, (2, ("bb",)), words)

    def test_only_the_others_make_points(self):
        family = (2, ("a", "bbbbbbbb"))
        words = ("a" * 24, "b" * 24, "abbbbbbbb" + "a" * 15, "ba", "a" * 20, "A" * 20)
        derivations, action = evidence_for(family, words)
        self.assertEqual((len(derivations), len(action[0])), (5, 9))


class Parted(TestCase):
    def test_members_and_others(self):
        for family in FAMILIES[::2] + EDGES:
            for words in lots_of_words(family, 5, 67, 24):
                self.assertEqual(parted(family, words), plain_parting(family, words))

    def test_no_word_six_words_only_members_and_only_others(self):
        self.assertEqual(parted(SQUARES, ()), ((), ()))
        self.assertEqual(parted(SQUARES, ("a", "aa", "b", "bb", "ab", "aabb")), ((1, 3, 5), (0, 2, 4)))
        self.assertEqual(parted(SQUARES, ("aa", "", "bB", "BB", "aa", "bbAA")), ((0, 1, 2, 3, 4, 5), ()))
        self.assertEqual(parted(SQUARES, ("a", "b", "a")), ((), (0, 1, 2)))

    def test_kinds(self):
        for words in (WORDS, (), ("a",), ("aa",)):
            members, others = parted(SQUARES, words)
            self.assertEqual((members.__class__, others.__class__), (tuple, tuple))
            derivations, action = evidence_for(SQUARES, words)
            self.assertIs(derivations.__class__, tuple)
            self.assertEqual(action is None, not others)


class EvidenceFor(TestCase):
    def test_accepted(self):
        for family in FAMILIES[::2] + EDGES:
            for words in lots_of_words(family, 4, 68):
                members, others = plain_parting(family, words)
                if plain_graph_with(family, [words[at] for at in others])[0] > 60:
                    continue
                derivations, action = evidence = evidence_for(family, words)
                self.assertEqual(derivations, tuple(derivation_for(family, words[at]) for at in members))
                told = told_against_all(family, tuple(words[at] for at in others)) if others else None
                self.assertEqual(action, told)
                self.assertIs(accepts_parting(family, words, (members, others), evidence), True)

    def test_no_word_only_members_and_only_others(self):
        self.assertEqual(evidence_for(SQUARES, ()), ((), None))
        self.assertEqual(evidence_for(SQUARES, ("aa",))[1], None)
        self.assertEqual(evidence_for(SQUARES, ("a", "b", "ab")), ((), ((1, 0, 2, 3), (2, 3, 0, 1))))


def plain_accepts_parting(family, words, parting, evidence):
    """Judge partings and evidence that have the form of such."""
    members, others = parting
    derivations, action = evidence
    if sorted(members + others) != list(range(len(words))) or len(derivations) != len(members):
        return False
    if sorted(members) != list(members) or sorted(others) != list(others):
        return False
    if not all(accepts_derivation(family, words[at], told) for at, told in zip(members, derivations)):
        return False
    if not others:
        return action is None
    return action is not None and plain_is_against(family, [words[at] for at in others], action)


class AcceptsParting(TestCase):
    def accepts(self, parting, evidence, words=WORDS):
        """Judge by the family of the squares."""
        return accepts_parting(SQUARES, words, parting, evidence)

    def test_the_right_parting_and_no_other(self):
        for family in SOME:
            for words in lots_of_words(family, 4, 69, 5):
                right = plain_parting(family, words)
                for turn in range(2 ** len(words)):
                    members = tuple(at for at in range(len(words)) if turn >> at & 1)
                    others = tuple(at for at in range(len(words)) if not turn >> at & 1)
                    for evidence in self.some_evidence(family, words, members, others):
                        told = accepts_parting(family, words, (members, others), evidence)
                        self.assertIs(told, plain_accepts_parting(family, words, (members, others), evidence))
                        if told:
                            self.assertEqual((members, others), right)

    def some_evidence(self, family, words, members, others):
        """List evidence for what may not be the parting: as good as it goes."""
        derivations = tuple(derivation_for(family, words[at]) or (("", ()),) for at in members)
        actions = [None, full_action(family), told_against_all(family, tuple(words[at] for at in others))]
        return [(derivations, action) for action in actions]

    def test_drawn_actions(self):
        for family in (SQUARES, (2, ("aaa", "bb")), (2, ())):
            for words in lots_of_words(family, 10, 70, 4):
                parting = plain_parting(family, words)
                derivations, _ = evidence_for(family, words)
                for points in (1, 2, 3, 4):
                    for action in some_actions(10, 2, points, 70 + points):
                        told = plain_accepts_parting(family, words, parting, (derivations, action))
                        self.assertIs(accepts_parting(family, words, parting, (derivations, action)), told)

    def test_an_index_on_the_wrong_side_twice_or_left_out(self):
        derivations, action = evidence = evidence_for(SQUARES, WORDS)
        self.assertIs(self.accepts(PARTING, evidence), True)
        for members in ((), (1,), (3,), (1, 3), (3, 1), (1, 1), (1, 1, 3), (1, 3, 3), (0, 1, 3), (1, 2, 3), (1, 3, 5),
                        (-4, 3), (-4, -2), (1, -2), (0, 1), (1, 3, 1), (0, 2, 4)):
            for others in ((), (0, 2, 4), (0, 4, 2), (0, 2), (2, 4), (0, 2, 4, 4), (0, 0, 2, 4), (0, 2, 3, 4),
                           (0, 2, 5), (0, 1, 2, 4), (0, 2, -1), (-5, 2, 4), (4, 2, 0), (1, 3), (0, 1, 2, 3, 4)):
                for told in (derivations, derivations[:1], derivations[1:], derivations[:1] * 2, derivations * 2,
                             derivations[:1] + derivations, ()):
                    right = (members, others, told) == (*PARTING, derivations)
                    self.assertIs(self.accepts((members, others), (told, action)), right)

    def test_a_derivation_left_out_spoilt_or_exchanged(self):
        (first, second), action = evidence_for(SQUARES, WORDS)
        for derivations in ((second, first), (first,), (second,), (), (first, first), (second, second),
                            (first, second, second), (first, None), (None, second), (first, ()), ((), second),
                            (first, second, ()), (first + second, second), (first[0], second), (first, list(second))):
            self.assertIs(self.accepts(PARTING, (derivations, action)), derivations == (first, second))
        spoilt = (("bba", second[0][1]),)
        self.assertIs(self.accepts(PARTING, ((first, spoilt), action)), False)

    def test_none_and_an_action_in_the_wrong_place(self):
        derivations, action = evidence_for(SQUARES, WORDS)
        self.assertIs(self.accepts(PARTING, (derivations, None)), False)
        members = tuple(WORDS[at] for at in PARTING[0])
        self.assertIs(self.accepts(((0, 1), ()), (derivations, None), members), True)
        for other in (action, full_action(SQUARES), (), False, 0, "", [], ((),), "None"):
            self.assertIs(self.accepts(((0, 1), ()), (derivations, other), members), False)
        others = tuple(WORDS[at] for at in PARTING[1])
        self.assertIs(self.accepts(((), (0, 1, 2)), ((), action), others), True)
        for other in (None, full_action((2, ("a",))), full_action((1, ("aa",))), (), ((0,), (0,)), ((1, 0), (0, 1))):
            self.assertIs(self.accepts(((), (0, 1, 2)), ((), other), others), False)
        self.assertIs(self.accepts(((), (0, 1, 2)), (None, action), others), False)
        self.assertIs(self.accepts(((), (0, 1, 2)), (((),), action), others), False)

    def test_no_words(self):
        self.assertIs(self.accepts(((), ()), ((), None), ()), True)
        empty = (("", ()),)
        for evidence in (((), full_action(SQUARES)), (empty, None), ((empty,), None), (None, None), (), None):
            self.assertIs(self.accepts(((), ()), evidence, ()), False)
        for parting in (((0,), ()), ((), (0,)), (), ((),), ((), (), ()), None, ([], ()), ((), [])):
            self.assertIs(self.accepts(parting, ((), None), ()), False)

    def test_the_action_is_against_each_of_the_others(self):
        words = ("a", "b", "ab")
        for at in range(3):
            shuffled = words[at:] + words[:at]
            self.assertIs(self.accepts(((), (0, 1, 2)), ((), ((1, 0, 2), (2, 1, 0))), shuffled), True)
            self.assertIs(self.accepts(((), (0, 1, 2)), ((), ((1, 0), (0, 1))), shuffled), False)
            self.assertIs(self.accepts(((), (0, 1, 2)), ((), ((0, 1), (1, 0))), shuffled), False)
            self.assertIs(self.accepts(((), (0, 1, 2)), ((), ((1, 0), (1, 0))), shuffled), False)

    def test_values_of_every_other_kind(self):
        evidence = evidence_for(SQUARES, WORDS)
        check_odd_forms(self, lambda value: self.accepts(value, evidence), PARTING)
        check_odd_forms(self, lambda value: self.accepts(PARTING, value), evidence)
        for parting in part_by_part(PARTING, NEVER[:6]) + with_lists(PARTING):
            for other in NO_TUPLES:
                self.assertIs(self.accepts(parting, other), False)
        self.assertIs(self.accepts(PARTING + ((),), evidence), False)
        self.assertIs(self.accepts(PARTING, evidence + (None,)), False)


class WrongArguments(TestCase):
    def test_family_and_words(self):
        for family in EDGES:
            for words in ((), ("a",), ("a", "", "aA", "a", "A", "aaA")):
                parameters = (
                    ("family", family, NO_FAMILIES), ("words", words, no_tuples_of_words(family[0], 6)))
                for function in (told_against_all, parted, evidence_for):
                    check_wrong_arguments(self, function, *parameters)
                for parting, evidence in ((((), ()), ((), None)), (None, None)):
                    check_wrong_arguments(
                        self, lambda told, spelled: accepts_parting(told, spelled, parting, evidence), *parameters)

    def test_six_words_of_24_letters(self):
        family = (3, ("abcabcab", "cbacbacb", "aBcAbCaB", "CCCCCCCC"))
        words = ("a" * 24, "C" * 24, "abcabcab" * 3, "b", "aA" * 12, "c" * 24)
        self.assertEqual(parted(family, words), ((1, 2, 4, 5), (0, 3)))
        self.assertEqual(len(evidence_for(family, words)[0]), 4)

    def test_a_wrong_argument_comes_before_what_is_too_large(self):
        words = ("a" * 24, "b" * 24, "A" * 24, "B" * 24)
        for function in (told_against_all, evidence_for):
            for wrong in (words + ("c",), words + (None,), words * 2):
                with self.assertRaises(BadValue) as caught:
                    function((2, ()), wrong)
                self.assertEqual(caught.exception.name, "words")
