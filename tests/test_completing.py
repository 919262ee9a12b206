"""foldedways.completing: points [53] to [61]."""

from random import Random
from unittest import TestCase

from foldedways.actions import image, is_action, returns
from foldedways.completing import accepts_action, action_against, attached, full_action, further_words
from foldedways.derivations import accepts_derivation, derivation_for
from tests.plain import all_words, is_reduced, plain_inverse, plain_reduced, some_words
from tests.plain_actions import plain_returns, renumbered, some_actions
from tests.plain_completing import (
    plain_attached, plain_belongs, plain_completed, plain_further, plain_is_against, plain_paths)
from tests.plain_graphs import plain_graph, plain_walk, some_families
from tests.test_folding import EDGES, FAMILIES, NO_FAMILIES
from tests.test_graphs import some_products
from tests.wrong import check_odd_forms, check_wrong_arguments, no_words

ALL = FAMILIES + EDGES
SOME = FAMILIES[::6] + EDGES
SQUARES = (2, ("aa", "bb"))
FINITE = [
    (1, ("a",)), (1, ("a" * 8,)), (2, ("a", "b")), (2, ("aa", "ab", "bb")), (2, ("aaa", "b", "abA", "Aba")),
    (3, ("abc", "b", "c")), (3, ("a", "b", "c", "abc"))]


class Attached(TestCase):
    def test_letter_by_letter(self):
        for family in ALL:
            for word in some_words(8, family[0], 24, 53) + some_products(family, 4, 53):
                self.assertEqual(attached(family, word), plain_attached(plain_graph(family), word))

    def test_all_short_words(self):
        for family in some_families(15, 2, 54) + [SQUARES, (2, ())]:
            for word in all_words(2, 4):
                self.assertEqual(attached(family, word), plain_attached(plain_graph(family), word))

    def test_still_folded_and_the_end(self):
        for family in ALL:
            graph = plain_graph(family)
            for word in some_words(6, family[0], 24, 54) + some_products(family, 4, 54):
                (vertices, edges), end = attached(family, word)
                self.assertEqual(len({(start, letter) for start, letter, _ in edges}), len(edges))
                self.assertEqual(len({(letter, goal) for _, letter, goal in edges}), len(edges))
                self.assertEqual(list(edges), sorted(set(edges)))
                self.assertLessEqual(vertices - graph[0], len(plain_reduced(word)))
                self.assertLessEqual(set(graph[1]), set(edges))
                self.assertEqual(end == 0, plain_belongs(family, word))
                if end == 0:
                    self.assertEqual((vertices, edges), graph)
                self.assertEqual(plain_walk((vertices, edges), 0, plain_reduced(word)), end)

    def test_by_hand(self):
        self.assertEqual(attached((1, ()), "AA"), ((3, ((1, "a", 0), (2, "a", 1))), 2))
        self.assertEqual(attached((2, ()), "aB"), ((3, ((0, "a", 1), (2, "b", 1))), 2))
        self.assertEqual(attached((2, ("aab",)), "bA"), ((5, (
            (0, "a", 1), (0, "b", 3), (1, "a", 2), (2, "b", 0), (4, "a", 3))), 4))
        self.assertEqual(attached(SQUARES, "aBbA"), (plain_graph(SQUARES), 0))

    def test_kinds(self):
        (vertices, edges), end = attached(SQUARES, "ab")
        self.assertEqual([told.__class__ for told in (vertices, end, edges, edges[0])], [int, int, tuple, tuple])
        self.assertEqual(attached(SQUARES, "ab").__class__, tuple)


class FullAction(TestCase):
    def test_completed_plainly(self):
        for family in ALL:
            self.assertEqual(full_action(family), plain_completed(family[0], plain_graph(family)))

    def test_an_action_that_does_what_is_walked(self):
        for family in ALL:
            action, graph = full_action(family), plain_graph(family)
            self.assertIs(is_action(action, family[0]), True)
            self.assertEqual(len(action[0]), graph[0])
            for point in range(graph[0]):
                for word in some_words(3, family[0], 6, point):
                    goal = plain_walk(graph, point, word)
                    if goal is not None:
                        self.assertEqual(image(action, point, word), goal)

    def test_missing_edges_in_ascending_order(self):
        self.assertEqual(full_action((2, ("abbA",))), ((1, 0, 2), (0, 2, 1)))
        self.assertEqual(full_action((2, ("abA", "Aba"))), ((1, 2, 0), (0, 1, 2)))
        self.assertEqual(full_action((2, ("bbbb",))), ((0, 1, 2, 3), (1, 3, 0, 2)))
        self.assertEqual(full_action((1, ())), ((0,),))
        self.assertEqual(full_action((3, ())), ((0,), (0,), (0,)))
        self.assertEqual(full_action((2, ("baB",))), ((0, 1), (1, 0)))
        self.assertEqual(full_action((3, ("abA",))), ((1, 0), (0, 1), (0, 1)))
        self.assertEqual(full_action((2, ("abAB",))), ((1, 0, 3, 2), (2, 3, 0, 1)))
        self.assertEqual(full_action((2, ("aBAb",))), ((1, 0, 3, 2), (2, 3, 0, 1)))

    def test_kinds(self):
        action = full_action(SQUARES)
        self.assertEqual((action.__class__, action[0].__class__, action[0][0].__class__), (tuple, tuple, int))


class ActionAgainst(TestCase):
    def test_completed_plainly(self):
        for family in ALL:
            for word in some_words(8, family[0], 24, 57) + some_products(family, 3, 57):
                graph, end = plain_attached(plain_graph(family), word)
                told = plain_completed(family[0], graph) if end else None
                self.assertEqual(action_against(family, word), told)

    def test_against_the_word_exactly_if_it_does_not_belong(self):
        for family in ALL:
            for word in some_words(6, family[0], 24, 58) + some_products(family, 3, 58):
                action = action_against(family, word)
                self.assertEqual(action is None, plain_belongs(family, word))
                if action is not None:
                    self.assertIs(accepts_action(family, word, action), True)
                    self.assertTrue(plain_is_against(family, [word], action))
                    self.assertLessEqual(len(action[0]), 60)

    def test_exactly_one_of_a_derivation_and_an_action(self):
        for family in SOME:
            for word in some_words(8, family[0], 12, 59) + some_products(family, 4, 59) + ["", "a", "aA"]:
                derivation, action = derivation_for(family, word), action_against(family, word)
                self.assertNotEqual(derivation is None, action is None)
                shown = accepts_derivation(family, word, derivation)
                self.assertNotEqual(shown, accepts_action(family, word, action))
                self.assertEqual(shown, derivation is not None)

    def test_the_greatest_graph(self):
        family = (3, ("abcabcab", "bcabcabC", "cabacbab", "AbAcbCab"))
        word = "CC" * 12
        vertices = plain_graph(family)[0]
        action = action_against(family, word)
        self.assertEqual(len(action[0]), vertices + 24)
        self.assertGreater(vertices, 20)
        self.assertIs(accepts_action(family, word, action), True)

    def test_families_with_the_same_graph(self):
        chance = Random(60)
        for rank, given in SOME:
            shuffled = list(given)
            chance.shuffle(shuffled)
            for other in (tuple(shuffled), tuple(plain_inverse(word) for word in given), (given + given[:1])[:4]):
                if plain_graph((rank, other)) == plain_graph((rank, given)):
                    self.assertEqual(full_action((rank, other)), full_action((rank, given)))
                    self.assertEqual(further_words((rank, other)), further_words((rank, given)))
                    for word in some_words(4, rank, 12, 60):
                        self.assertEqual(action_against((rank, other), word), action_against((rank, given), word))
                        self.assertEqual(attached((rank, other), word), attached((rank, given), word))


class AcceptsAction(TestCase):
    def test_two_images_exchanged(self):
        refused = 0
        for family in SOME:
            chance = Random(61)
            for word in some_words(4, family[0], 8, 61):
                action = action_against(family, word) or full_action(family)
                for _ in range(6):
                    rows = [list(row) for row in action]
                    row = chance.choice(rows)
                    one, other = chance.randrange(len(row)), chance.randrange(len(row))
                    row[one], row[other] = row[other], row[one]
                    spoilt = tuple(tuple(row) for row in rows)
                    told = plain_is_against(family, [word], spoilt)
                    self.assertIs(accepts_action(family, word, spoilt), told)
                    refused += not told
        self.assertGreater(refused, 100)

    def test_drawn_actions(self):
        for family in some_families(20, 2, 62) + some_families(20, 1, 62) + [SQUARES, (2, ()), (1, ("aaaa",))]:
            for points in (1, 2, 3, 4):
                for action in some_actions(8, family[0], points, points):
                    for word in some_words(3, family[0], 6, 62) + [""]:
                        self.assertIs(accepts_action(family, word, action), plain_is_against(family, [word], action))

    def test_whoever_wrote_it_the_word_does_not_belong(self):
        accepted = 0
        for family in some_families(30, 2, 63):
            for action in some_actions(10, 2, 4, 63):
                for word in some_words(3, 2, 6, 64):
                    if accepts_action(family, word, action):
                        accepted += 1
                        self.assertFalse(plain_belongs(family, word))
        self.assertGreater(accepted, 10)

    def test_fewer_and_more_points(self):
        for family in SOME:
            for word in some_words(4, family[0], 10, 65):
                action = action_against(family, word)
                if action is None:
                    continue
                points = len(action[0])
                for many in (points + 1, 60):
                    more = tuple(row + tuple(range(points, many)) for row in action)
                    self.assertIs(accepts_action(family, word, more), True)
                numbers = [0, *range(points - 1, 0, -1)]
                self.assertIs(accepts_action(family, word, renumbered(action, numbers)), True)
                beyond = tuple(row + tuple(range(points, 61)) for row in action)
                self.assertIs(accepts_action(family, word, beyond), False)
        self.assertIs(accepts_action(SQUARES, "ab", ((1, 0, 2), (0, 2, 1))), True)
        self.assertIs(accepts_action(SQUARES, "a", ((1, 0), (0, 1))), True)
        self.assertIs(accepts_action(SQUARES, "b", ((1, 0), (0, 1))), False)
        self.assertIs(accepts_action(SQUARES, "b", ((0,), (0,))), False)

    def test_no_word_that_belongs(self):
        for family in SOME:
            for word in some_products(family, 4, 66):
                for other in some_words(3, family[0], 6, 66):
                    for action in (full_action(family), action_against(family, other), None):
                        self.assertIs(accepts_action(family, word, action), False)

    def test_each_given_word_has_to_return(self):
        for at in range(4):
            given = ["aa"] * 4
            given[at] = "b"
            self.assertIs(accepts_action((2, tuple(given)), "a", ((1, 0), (0, 1))), True)
            self.assertIs(accepts_action((2, tuple(given)), "a", ((1, 0), (1, 0))), False)

    def test_other_ranks(self):
        for rank in (1, 2, 3):
            for other in (1, 2, 3):
                action = ((1, 0),) + ((0, 1),) * (other - 1)
                self.assertIs(accepts_action((rank, ("aa",)), "a", action), rank == other)
        self.assertIs(accepts_action((3, ("aa",)), "a", ((1, 0),) + ((0, 1),) * 3), False)

    def test_values_of_every_other_kind(self):
        check_odd_forms(self, lambda value: accepts_action(SQUARES, "ab", value), ((1, 0, 2), (0, 2, 1)))
        check_odd_forms(self, lambda value: accepts_action((1, ("aa",)), "aaa", value), ((1, 0),))
        for value in (((1, 1, 2), (0, 2, 1)), ((1, 0), (0, 2, 1)), ((), ()), ((1, 0, 3), (0, 3, 1)), ((-1, 0), (0, -1)),
                      "10", ((1, 0, 2), (0, 2, 1), ()), (((1, 0, 2), (0, 2, 1)),), ("102", "021"),
                      ((1, 2, 0), (0, 2, 1))):
            self.assertIs(accepts_action(SQUARES, "ab", value), False)


class FurtherWords(TestCase):
    def test_told_plainly(self):
        for family in ALL:
            self.assertEqual(further_words(family), plain_further(family))

    def test_as_many_as_edges_are_missing(self):
        for family in ALL:
            vertices, edges = plain_graph(family)
            words = further_words(family)
            self.assertEqual(len(words), vertices * family[0] - len(edges))
            for word in words:
                self.assertTrue(is_reduced(word))
                self.assertLessEqual(len(word), 9)
                self.assertFalse(plain_belongs(family, word))
                self.assertIs(returns(full_action(family), word), True)

    def test_what_returns_in_the_full_action(self):
        for family in FAMILIES[::3] + EDGES:
            rank, given = family
            together = plain_graph((rank, given + further_words(family)))
            for word in some_words(12, rank, 12, 67):
                returning = plain_walk(together, 0, plain_reduced(word)) == 0
                self.assertEqual(plain_returns(full_action(family), word), returning)

    def test_no_edge_is_missing(self):
        for family in FINITE:
            vertices, edges = plain_graph(family)
            self.assertEqual(vertices * family[0], len(edges))
            self.assertEqual(further_words(family), ())
            for word in some_words(40, family[0], 16, 68):
                self.assertEqual(plain_returns(full_action(family), word), plain_belongs(family, word))

    def test_an_edge_is_missing(self):
        told = 0
        for family in ALL:
            vertices, edges = plain_graph(family)
            self.assertEqual(vertices * family[0] > len(edges), bool(further_words(family)))
            told += not further_words(family)
        self.assertGreater(told, 20)

    def test_words_of_9_letters(self):
        longest = max(len(word) for family in ALL for word in further_words(family))
        self.assertEqual(longest, 9)
        family = (2, ("abababab",))
        self.assertIn("ababbBABA"[:4], plain_paths(2, plain_graph(family)))
        self.assertEqual(further_words(family), plain_further(family))

    def test_kinds(self):
        self.assertEqual(further_words((1, ())), ("a",))
        self.assertEqual(further_words((3, ())), ("a", "b", "c"))
        self.assertIs(further_words(SQUARES).__class__, tuple)


class WrongArguments(TestCase):
    def test_family(self):
        for family in EDGES:
            for function in (full_action, further_words):
                check_wrong_arguments(self, function, ("family", family, NO_FAMILIES))

    def test_family_and_word(self):
        for family in EDGES:
            for word in ("a", "a" * 24, "aA" * 12):
                words = ("word", word, no_words(family[0]))
                for function in (attached, action_against):
                    check_wrong_arguments(self, function, ("family", family, NO_FAMILIES), words)
                for value in (None, ((1, 0),), "a"):
                    check_wrong_arguments(
                        self, lambda told, spelled: accepts_action(told, spelled, value),
                        ("family", family, NO_FAMILIES), words)
