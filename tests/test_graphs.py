"""foldedways.graphs: points [30], [31], [34] to [41], and [7], [22]."""

from itertools import product
from math import gcd
from random import Random
from unittest import TestCase

from foldedways.actions import is_action, returns
from foldedways.graphs import belongs, graph_of, is_neat, paths, walk
from tests.plain import (
    LETTERS, all_reduced, all_words, by_length, is_reduced, plain_inverse, plain_reduced, some_words)
from tests.plain_completing import plain_attached, plain_completed
from tests.plain_graphs import loops_of, plain_graph, plain_numbered, plain_walk, some_families, step
from tests.test_folding import EDGES, FAMILIES, NO_FAMILIES
from tests.wrong import NO_RANKS, NO_TUPLES, check_odd_forms, check_wrong_arguments, no_words

ALL = FAMILIES + EDGES
SQUARES = (2, ("aa", "bb"))


def letters_of(family):
    """Count the letters of the reduced given words."""
    return sum(len(plain_reduced(word)) for word in family[1])


def some_products(family, many, seed):
    """Join given words and their inverses, with opposite letters put in, to words of at most 24 letters."""
    chance = Random(seed)
    words = [""]
    for _ in range(many if family[1] else 0):
        whole = ""
        for _ in range(chance.randint(1, 6)):
            word = chance.choice(family[1])
            whole += chance.choice((word, plain_inverse(word)))
        whole = chance.choice((whole, plain_reduced(whole)))
        for _ in range(chance.randint(0, 3)):
            at, letter = chance.randint(0, len(whole)), chance.choice(LETTERS[:2 * family[0]])
            whole = whole[:at] + letter + plain_inverse(letter) + whole[at:]
        if len(whole) <= 24:
            words.append(whole)
    return words


class GraphOf(TestCase):
    def test_rules_applied_plainly(self):
        for family in ALL:
            self.assertEqual(graph_of(family), plain_graph(family))

    def test_a_graph_and_folded(self):
        for family in ALL:
            vertices, edges = graph_of(family)
            self.assertEqual(list(edges), sorted(set(edges)))
            self.assertEqual(len({(start, letter) for start, letter, _ in edges}), len(edges))
            self.assertEqual(len({(letter, end) for _, letter, end in edges}), len(edges))
            for start, letter, end in edges:
                self.assertTrue(0 <= start < vertices and 0 <= end < vertices)
                self.assertIn(letter, list("abc"[:family[0]]))

    def test_bounds(self):
        for family in ALL:
            vertices, edges = graph_of(family)
            self.assertLessEqual(vertices, letters_of(family) + 1)
            self.assertLessEqual(len(edges), letters_of(family))
            self.assertLessEqual(vertices, len(edges) + 1)
            only_empty = not any(plain_reduced(word) for word in family[1])
            self.assertEqual(vertices == len(edges) + 1, only_empty)

    def test_same_graph(self):
        chance = Random(36)
        for family in ALL:
            rank, given = family
            graph = graph_of(family)
            shuffled = list(given)
            chance.shuffle(shuffled)
            others = [tuple(shuffled), tuple(plain_inverse(word) for word in given), given[::-1]]
            others += [tuple(chance.choice((word, plain_reduced(word))) for word in given)]
            for word in some_products(family, 8, 37):
                if len(word) <= 8 and len(given) < 4:
                    others += [given + (word,), (word,) + given]
            if len(given) < 4:
                others += [given + given[:1], given + ("",)]
            for other in others:
                self.assertEqual(graph_of((rank, other)), graph)

    def test_a_given_word_more(self):
        for family in ALL:
            rank, given = family
            for word in some_words(6, rank, 8, 39) if len(given) < 4 else ():
                same = graph_of((rank, given + (word,))) == graph_of(family)
                self.assertEqual(same, plain_walk(plain_graph(family), 0, plain_reduced(word)) == 0)
                self.assertIs(belongs(family, word), same)

    def test_long_given_words(self):
        self.assertEqual(graph_of((1, ("a" * 8,)))[0], 8)
        family = (3, ("abcabcab", "cbacbacb", "aBcAbCaB", "CCCCCCCC"))
        self.assertEqual(graph_of(family), plain_graph(family))
        self.assertEqual(graph_of((2, ("aA" * 4,) * 4)), (1, ()))


class Walk(TestCase):
    def test_letter_by_letter(self):
        for family in ALL:
            graph = plain_graph(family)
            for word in some_words(12, family[0], 24, 31) + some_products(family, 12, 32):
                self.assertEqual(walk(family, word), plain_walk(graph, 0, plain_reduced(word)))

    def test_all_short_words(self):
        for family in some_families(25, 2, 40) + [SQUARES]:
            graph = plain_graph(family)
            for word in all_words(2, 4):
                vertex = plain_walk(graph, 0, plain_reduced(word))
                self.assertEqual(walk(family, word), vertex)
                self.assertIs(belongs(family, word), vertex == 0)

    def test_unreduced_words_lead_to_the_same_vertex_where_they_can_be_walked(self):
        for family in FAMILIES:
            graph = graph_of(family)
            for word in some_words(20, family[0], 10, 33):
                goal = plain_walk(graph, 0, word)
                if goal is not None:
                    self.assertEqual(walk(family, word), goal)
                    self.assertEqual(plain_walk(graph, goal, plain_inverse(word)), 0)

    def test_only_the_reduced_form_is_walked(self):
        self.assertEqual(walk(SQUARES, "abBA"), 0)
        self.assertIs(walk(SQUARES, "ab"), None)
        self.assertEqual(walk((1, ()), "aA"), 0)
        self.assertIs(walk((1, ()), "A"), None)
        self.assertEqual(walk((2, ("aa",)), "bBa" + "aA" * 10), 1)

    def test_capital_letters_go_backwards(self):
        family = (2, ("aab",))
        self.assertEqual([walk(family, word) for word in ("", "a", "B", "aa", "BA", "BAA")], [0, 1, 2, 2, 1, 0])
        self.assertIs(walk(family, "A"), None)
        self.assertIs(walk(family, "b"), None)


class Belongs(TestCase):
    def test_products_of_given_words_and_inverses(self):
        for family in ALL:
            for word in some_products(family, 30, 35):
                self.assertIs(belongs(family, word), True)
                self.assertIs(belongs(family, plain_inverse(word)), True)

    def test_the_empty_word(self):
        for family in ALL:
            for word in ("", "aA", "AaaA"):
                self.assertIs(belongs(family, word), True)

    def test_an_action_shows_which_words_do_not_belong(self):
        for family in ALL:
            graph = graph_of(family)
            for word in some_words(12, family[0], 12, 36):
                if not belongs(family, word):
                    action = plain_completed(family[0], plain_attached(graph, word)[0])
                    self.assertTrue(is_action(action, family[0]))
                    self.assertTrue(all(returns(action, given) for given in family[1]))
                    self.assertFalse(returns(action, word))

    def test_all_short_words_that_given_words_make(self):
        for family in (SQUARES, (2, ("ab", "ba")), (2, ("ab", "b")), (2, ("aab", "bA")), (2, ("abA", "bb")), (2, ())):
            signed = [plain_reduced(word) for given in family[1] for word in (given, plain_inverse(given))]
            made, new = {""}, {""}
            while new:
                joined = {plain_reduced(word + more) for word in new for more in signed}
                new = {word for word in joined if len(word) <= 8} - made
                made |= new
            for word in all_reduced(2, 5):
                self.assertIs(belongs(family, word), word in made)

    def test_rank_1(self):
        for first in range(9):
            for second in range(9):
                many = gcd(first, second)
                for letters in range(25):
                    belonging = letters == 0 if many == 0 else letters % many == 0
                    self.assertIs(belongs((1, ("a" * first, "A" * second)), "a" * letters), belonging)

    def test_families_that_are_known(self):
        for word in some_words(60, 2, 24, 37):
            self.assertIs(belongs((2, ("a", "b")), word), True)
            self.assertIs(belongs((2, ("ab", "B")), word), True)
            self.assertIs(belongs((2, ("aa", "ab", "bb")), word), len(word) % 2 == 0)
            count = word.count("a") - word.count("A")
            self.assertIs(belongs((2, ("aaa", "b", "abA", "Aba")), word), count % 3 == 0)


class Paths(TestCase):
    def test_first_words_by_a_search(self):
        for family in some_families(40, 2, 41) + some_families(40, 1, 42) + some_families(20, 3, 43) + [SQUARES]:
            graph = plain_graph(family)
            found = {}
            for word in all_words(family[0], 4 if family[0] < 3 else 3):
                found.setdefault(plain_walk(graph, 0, word), word)
            for vertex, path in enumerate(paths(family)):
                self.assertEqual(found.get(vertex, path), path)

    def test_in_order_by_length_and_to_their_vertices(self):
        for family in ALL:
            graph = graph_of(family)
            told = paths(family)
            self.assertEqual(len(told), graph[0])
            self.assertEqual(list(told), sorted(set(told), key=by_length))
            self.assertEqual(told[0], "")
            for vertex, path in enumerate(told):
                self.assertTrue(is_reduced(path))
                self.assertIn(path[:-1], told)
                self.assertEqual(plain_walk(graph, 0, path), vertex)
                self.check_no_path_comes_first(family, graph, told, path)

    def check_no_path_comes_first(self, family, graph, told, path):
        """Check that paths one letter longer do not come before the path to their vertex."""
        for letter in LETTERS[:2 * family[0]]:
            goal = plain_walk(graph, 0, path + letter)
            if goal is not None:
                self.assertLessEqual(by_length(told[goal]), by_length(path + letter))

    def test_edges(self):
        self.assertEqual(paths((3, ())), ("",))
        self.assertEqual(paths((1, ("a" * 8,))), ("", "a", "A", "aa", "AA", "aaa", "AAA", "aaaa"))
        self.assertEqual(paths((2, ("bbAA", "ab"))), ("", "a", "b", "aa"))


def plain_is_neat(rank, value):
    """Tell if a value that is a graph is neat, by the words of points 30 and 37."""
    vertices, edges = value
    for vertex in range(vertices):
        ends = [end for start, _, target in edges for end in (start, target)]
        if vertex and ends.count(vertex) < 2:
            return False
        for letter in LETTERS[:2 * rank]:
            if len([edge for edge in edges if edge[1] == letter and edge[0] == vertex]) > 1:
                return False
            if len([edge for edge in edges if edge[1] == letter and edge[2] == vertex]) > 1:
                return False
    found = [0]
    for vertex in found:
        for letter in LETTERS[:2 * rank]:
            found += [goal for goal in step(edges, vertex, letter) if goal not in found]
    return sorted(found) == list(range(vertices)) and plain_numbered(rank, edges) == (vertices, tuple(edges))


class IsNeat(TestCase):
    def test_graphs_of_families(self):
        for family in ALL:
            for rank in (1, 2, 3):
                used = {letter for _, letter, _ in graph_of(family)[1]}
                self.assertIs(is_neat(rank, graph_of(family)), used <= set("abc"[:rank]))

    def test_all_small_graphs(self):
        for rank, vertices in ((1, 1), (1, 2), (1, 3), (2, 1), (2, 2), (3, 1)):
            places = [(start, letter, end) for start in range(vertices) for letter in "abc"[:rank]
                      for end in range(vertices)]
            neat = 0
            for chosen in product((False, True), repeat=len(places)):
                value = (vertices, tuple(edge for edge, told in zip(places, chosen) if told))
                self.assertIs(is_neat(rank, value), plain_is_neat(rank, value))
                neat += is_neat(rank, value)
            self.assertGreater(neat, 0)

    def test_each_small_neat_graph_is_the_graph_of_some_given_words(self):
        for rank, vertices in ((1, 1), (1, 2), (1, 3), (2, 1), (2, 2), (3, 1)):
            places = [(start, letter, end) for start in range(vertices) for letter in "abc"[:rank]
                      for end in range(vertices)]
            for chosen in product((False, True), repeat=len(places)):
                value = (vertices, tuple(edge for edge, told in zip(places, chosen) if told))
                if is_neat(rank, value):
                    given = loops_of(rank, value)
                    self.assertLessEqual(len(given), 4)
                    self.assertEqual(graph_of((rank, given)), value)

    def test_an_edge_left_out_or_put_in_or_turned(self):
        for family in FAMILIES:
            rank = family[0]
            vertices, edges = graph_of(family)
            for at, (start, letter, end) in enumerate(edges):
                others = edges[:at] + edges[at + 1:]
                turned = tuple(sorted({*others, (end, letter, start)}))
                for other in (others, turned):
                    self.assertIs(is_neat(rank, (vertices, other)), plain_is_neat(rank, (vertices, other)))
            for start, letter, end in product(range(vertices), "abc"[:rank], (0, vertices - 1)):
                more = tuple(sorted({*edges, (start, letter, end)}))
                self.assertIs(is_neat(rank, (vertices, more)), plain_is_neat(rank, (vertices, more)))

    def test_in_another_sequence(self):
        for family in FAMILIES:
            vertices, edges = graph_of(family)
            if len(edges) > 1:
                for other in (edges[::-1], edges[1:] + edges[:1], (edges[1], edges[0]) + edges[2:], edges + edges[-1:],
                              edges[:1] + edges):
                    self.assertIs(is_neat(family[0], (vertices, other)), False)

    def test_vertices_renumbered(self):
        chance = Random(44)
        for family in FAMILIES:
            vertices, edges = graph_of(family)
            numbers = list(range(vertices))
            chance.shuffle(numbers)
            other = tuple(sorted((numbers[start], letter, numbers[end]) for start, letter, end in edges))
            value = (vertices, other)
            self.assertIs(is_neat(family[0], value), plain_is_neat(family[0], value))
            if numbers != sorted(numbers) and numbers[0] == 0:
                self.assertIs(is_neat(family[0], value), False)

    def test_a_vertex_of_a_single_edge_end(self):
        for family in FAMILIES:
            vertices, edges = graph_of(family)
            for vertex, letter in product(range(vertices), "abc"[:family[0]]):
                for edge in ((vertex, letter, vertices), (vertices, letter, vertex)):
                    self.assertIs(is_neat(family[0], (vertices + 1, tuple(sorted(edges + (edge,))))), False)
        self.assertIs(is_neat(2, (2, ((0, "a", 1),))), False)
        self.assertIs(is_neat(2, (2, ((0, "a", 1), (1, "b", 1)))), True)
        self.assertIs(is_neat(2, (3, ((0, "a", 1), (1, "b", 2)))), False)

    def test_the_vertex_0_may_have_a_single_edge_end(self):
        self.assertIs(is_neat(2, graph_of((2, ("abA",)))), True)
        self.assertIs(is_neat(1, (1, ())), True)

    def test_a_vertex_that_cannot_be_reached(self):
        for family in FAMILIES:
            vertices, edges = graph_of(family)
            self.assertIs(is_neat(family[0], (vertices + 1, edges)), False)
            self.assertIs(is_neat(family[0], (vertices + 1, edges + ((vertices, "a", vertices),))), False)
        self.assertIs(is_neat(2, (2, ((0, "a", 0), (0, "b", 0), (1, "a", 1), (1, "b", 1)))), False)
        self.assertIs(is_neat(1, (10 ** 30, ())), False)

    def test_edges_between_numbers_that_are_no_vertices(self):
        for family in FAMILIES:
            vertices, edges = graph_of(family)
            for far in (vertices, vertices + 1, 10 ** 30):
                self.assertIs(is_neat(family[0], (vertices, edges + ((far, "a", far),))), False)
            for far in (-1, -10 ** 30):
                self.assertIs(is_neat(family[0], (vertices, ((far, "a", far),) + edges)), False)

    def test_too_few_vertices(self):
        self.assertIs(is_neat(1, (1, ((0, "a", 1), (1, "a", 0)))), False)
        self.assertIs(is_neat(1, (0, ())), False)
        self.assertIs(is_neat(1, (-1, ())), False)

    def test_not_folded(self):
        self.assertIs(is_neat(1, (2, ((0, "a", 0), (0, "a", 1), (1, "a", 1)))), False)
        self.assertIs(is_neat(2, (2, ((0, "a", 1), (0, "b", 0), (0, "b", 1), (1, "a", 0)))), False)
        self.assertIs(is_neat(2, (2, ((0, "a", 1), (0, "b", 1), (1, "a", 0), (1, "b", 1)))), False)

    def test_other_forms_and_kinds(self):
        loop, cross = (0, "a", 0), (0, "a", 1)
        values = (
            (1,), ((),), (1, (), ()), (1, (loop,), 1), ((loop,), 1), [1, ()], (1, []), [1, (loop,)], (1, [loop]),
            (1, ([0, "a", 0],)), (1, {loop}), (1, {loop: loop}), (1, loop), (1, "a"), (1, None), (1, 0), (1, "0a0"),
            (True, ()), (True, (loop,)), (False, ()), ("1", ()), (1.0, ()), (None, ()), ((1,), ()),
            (1, ((False, "a", 0),)), (1, ((0, "a", False),)), (2, ((0, "a", True), (True, "a", 0))),
            (2, ((0, "a", True), (1, "a", 0))), (1, ((0.0, "a", 0),)), (1, (("0", "a", 0),)), (1, ((None, "a", 0),)),
            (1, ((0, "a"),)), (1, ((0, "a", 0, 0),)), (1, ((),)), (1, (0,)), (1, ("0a0",)), (1, (None,)),
            (1, ((0, "A", 0),)), (1, ((0, "b", 0),)), (1, ((0, "", 0),)), (1, ((0, "aa", 0),)), (1, ((0, "x", 0),)),
            (1, ((0, b"a", 0),)), (1, ((0, None, 0),)), (1, ((0, 0, 0),)), (1, ((0, ("a",), 0),)),
            (1, ((0, ["a"], 0),)), (1, (([0], "a", 0),)), (1, ((0, "a", 1),)), (1, ((1, "a", 0),)),
            (1, ((-1, "a", 0),)), (1, ((0, "a", -1),)), (2, (cross, (1, "a", 2))), (2, (cross, (1, "a", -2))),
            (1, (loop, None)), (1, (loop, loop)), (2, (cross, [1, "a", 0])), (2, (cross, cross)), ((1, ()),), (1, ((loop,),)),
        )
        for value in values + NO_TUPLES:
            with self.subTest(value=value):
                self.assertIs(is_neat(1, value), False)
        for letter in ("ab", "bc", "abc", "", "A", "c", "C"):
            self.assertIs(is_neat(2, (1, ((0, letter, 0),))), False)

    def test_values_of_every_other_kind(self):
        check_odd_forms(self, lambda value: is_neat(2, value), graph_of(SQUARES))

    def test_lists_are_left_as_they_are(self):
        value = [1, [[0, "a", 0]]]
        self.assertIs(is_neat(1, value), False)
        self.assertEqual(value, [1, [[0, "a", 0]]])


class Kinds(TestCase):
    def test_results(self):
        vertices, edges = graph_of(SQUARES)
        self.assertEqual((vertices.__class__, edges.__class__, edges[0].__class__), (int, tuple, tuple))
        self.assertIs(paths(SQUARES).__class__, tuple)
        self.assertIs(walk(SQUARES, "a").__class__, int)
        self.assertIs(belongs(SQUARES, "a"), False)
        self.assertIs(belongs(SQUARES, "aa"), True)

    def test_the_same_call_returns_equal_results(self):
        for family in ALL:
            self.assertEqual((graph_of(family), paths(family)), (graph_of(family), paths(family)))


class WrongArguments(TestCase):
    def test_family(self):
        for family in EDGES:
            for function in (graph_of, paths):
                check_wrong_arguments(self, function, ("family", family, NO_FAMILIES))

    def test_family_and_word(self):
        for family in EDGES:
            for word in ("a", "aA" * 12, "a" * 24):
                for function in (walk, belongs):
                    check_wrong_arguments(
                        self, function, ("family", family, NO_FAMILIES), ("word", word, no_words(family[0])))

    def test_rank(self):
        for value in ((1, ()), None, [], "ab", (1, ((0, "a", 0),))):
            for rank in (1, 2, 3):
                check_wrong_arguments(self, lambda told: is_neat(told, value), ("rank", rank, NO_RANKS))
