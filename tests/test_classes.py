"""foldedways.classes: points [84], [85], [89], [91]."""

from unittest import TestCase

from foldedways.bases import basis
from foldedways.classes import accepts_classes, are_in_one_class, class_grounds, count_classes, first_words
from foldedways.derivations import derivation_for
from foldedways.graphs import graph_of, is_neat
from tests.plain import all_reduced, all_words, plain_inverse, plain_reduced, some_words
from tests.plain_bases import plain_free_words
from tests.plain_completing import plain_belongs, plain_paths
from tests.plain_derivations import plain_accepts
from tests.plain_graphs import plain_graph, plain_numbered, plain_walk, some_families
from tests.test_completing import FINITE
from tests.test_folding import EDGES, FAMILIES, NO_FAMILIES
from tests.test_graphs import some_products
from tests.wrong import check_odd_forms, check_wrong_arguments, no_words, without_a_part

ALL = FAMILIES + EDGES + FINITE
SOME = FAMILIES[::6] + EDGES + FINITE
SQUARES = (2, ("aa", "bb"))
EVEN = (2, ("aa", "ab", "bb"))


def plain_is_finite(family):
    """Tell if no letter leaves the graph."""
    graph = plain_graph(family)
    return all(plain_walk(graph, vertex, letter) is not None
               for vertex in range(graph[0]) for letter in "aAbBcC"[:2 * family[0]])


class CountClasses(TestCase):
    def test_an_edge_at_each_vertex(self):
        finite = 0
        for family in ALL:
            told = plain_graph(family)[0] if plain_is_finite(family) else None
            self.assertEqual(count_classes(family), told)
            finite += told is not None
            if told is None:
                self.assertIs(first_words(family), None)
            else:
                self.assertEqual(first_words(family), tuple(plain_paths(family[0], plain_graph(family))))
        self.assertGreater(finite, 20)

    def test_a_search_for_classes(self):
        for family in FINITE:
            found = []
            for word in all_reduced(family[0], 4 if family[0] < 3 else 2):
                if not any(plain_belongs(family, word + plain_inverse(other)) for other in found):
                    found.append(word)
            if count_classes(family) < 9 and family != (1, ("a" * 8,)):
                self.assertEqual(first_words(family), tuple(found))
                self.assertEqual(count_classes(family), len(found))

    def test_infinitely_many(self):
        for family in (SQUARES, (2, ()), (1, ()), (3, ("a", "b")), (2, ("a" * 8,)), (1, ("aA",)), (3, ("ab", "cc"))):
            self.assertIs(count_classes(family), None)
            self.assertIs(first_words(family), None)

    def test_by_hand(self):
        self.assertEqual((count_classes(EVEN), first_words(EVEN)), (2, ("", "a")))
        self.assertEqual(count_classes((1, ("a" * 8,))), 8)
        self.assertEqual(first_words((1, ("a" * 5,))), ("", "a", "A", "aa", "AA"))
        self.assertEqual((count_classes((3, ("a", "b", "c"))), first_words((3, ("a", "b", "c")))), (1, ("",)))
        self.assertEqual(first_words((2, ("aaa", "b", "abA", "Aba"))), ("", "a", "A"))

    def test_the_words_of_the_basis(self):
        finite = 0
        for family in ALL:
            many = count_classes(family)
            if many is not None:
                self.assertEqual(len(basis(family)) - 1, many * (family[0] - 1))
                finite += 1
        self.assertGreater(finite, 20)


class AreInOneClass(TestCase):
    def test_by_walks(self):
        for family in SOME:
            words = some_words(8, family[0], 6, 84) + some_products(family, 4, 84) + ["", "a"]
            for first in words:
                for second in words[:6]:
                    told = plain_belongs(family, first + plain_inverse(second))
                    self.assertIs(are_in_one_class(family, first, second), told)
                    self.assertIs(are_in_one_class(family, second, first), told)

    def test_classes_are_told_by_vertices(self):
        for family in FINITE:
            graph = plain_graph(family)
            words = some_words(8, family[0], 24, 85)
            for first in words:
                for second in words:
                    same = plain_walk(graph, 0, plain_reduced(first)) == plain_walk(graph, 0, plain_reduced(second))
                    self.assertIs(are_in_one_class(family, first, second), same)
                vertex = plain_walk(graph, 0, plain_reduced(first))
                self.assertIs(are_in_one_class(family, first, first_words(family)[vertex]), True)

    def test_members_form_one_class(self):
        for family in SOME:
            members = some_products(family, 6, 86)
            for word in members:
                self.assertIs(are_in_one_class(family, word, members[0]), True)
                self.assertIs(are_in_one_class(family, word, ""), True)
            for word in some_words(4, family[0], 6, 86):
                self.assertIs(are_in_one_class(family, word, ""), plain_belongs(family, word))
                self.assertIs(are_in_one_class(family, "", word), plain_belongs(family, word))
                self.assertIs(are_in_one_class(family, word, word + "aA"), True)

    def test_the_second_word_is_inverted(self):
        self.assertIs(are_in_one_class((2, ("aabA",)), "aa", "aB"), True)
        self.assertIs(are_in_one_class((2, ("aabA",)), "aa", "bA"), False)
        self.assertIs(are_in_one_class((2, ("aabA",)), "AA", "bA"), False)
        self.assertIs(are_in_one_class((2, ("aabA",)), "A", "BAA"), False)
        self.assertIs(are_in_one_class(SQUARES, "aab", "b"), True)
        self.assertIs(are_in_one_class(SQUARES, "baa", "b"), False)

    def test_words_of_24_letters(self):
        self.assertIs(are_in_one_class(EVEN, "ab" * 12, "B" * 24), True)
        self.assertIs(are_in_one_class(EVEN, "ab" * 12, "B" * 23), False)
        self.assertIs(are_in_one_class((2, ()), "ab" * 12, "ab" * 12), True)


class Grounds(TestCase):
    def test_accepted(self):
        for family in ALL:
            graph, derivations = grounds = class_grounds(family)
            self.assertIs(accepts_classes(family, grounds), True)
            self.assertEqual(graph, plain_graph(family))
            words = plain_free_words(family[0], graph)
            self.assertEqual(len(derivations), len(words))
            for word, told in zip(words, derivations):
                self.assertTrue(plain_accepts(family, word, told))

    def test_grounds_of_another_family(self):
        for family in SOME:
            for other in SOME[::3]:
                if other[0] == family[0]:
                    graph, derivations = grounds = class_grounds(other)
                    self.assertIs(accepts_classes(family, grounds), self.plainly(family, graph, derivations))
                    if accepts_classes(family, grounds):
                        self.assertEqual(graph, plain_graph(family))

    def plainly(self, family, graph, derivations):
        """Judge a neat graph and derivations of some family."""
        words = plain_free_words(family[0], graph)
        if any(plain_walk(graph, 0, plain_reduced(word)) != 0 for word in family[1]):
            return False
        return len(words) == len(derivations) and all(
            plain_accepts(family, word, told) for word, told in zip(words, derivations))

    def test_another_graph(self):
        for family in SOME:
            rank = family[0]
            for other in some_families(4, rank, 85) + [(rank, ("a",)), (rank, ("aa",)), (rank, ())]:
                graph = plain_graph(other)
                derivations = tuple(derivation_for(family, word) for word in plain_free_words(rank, graph))
                self.assertIs(accepts_classes(family, (graph, derivations)), graph == plain_graph(family))
                self.assertIs(accepts_classes(family, (graph, class_grounds(family)[1])), graph == plain_graph(family))

    def test_whoever_wrote_them(self):
        family = (2, ("ab", "b"))
        by_hand = ((("a", (("given", 0, 1), ("given", 1, -1))),), (("b", (("given", 1, 1),)),))
        self.assertIs(accepts_classes(family, ((1, ((0, "a", 0), (0, "b", 0))), by_hand)), True)
        self.assertIs(accepts_classes(family, ((1, ((0, "a", 0), (0, "b", 0))), by_hand[::-1])), False)
        self.assertIs(accepts_classes(family, ((1, ((0, "b", 0), (0, "a", 0))), by_hand[::-1])), False)
        self.assertIs(accepts_classes((2, ("ab", "b", "ba")), ((1, ((0, "a", 0), (0, "b", 0))), by_hand)), True)

    def test_a_given_word_that_is_not_walked(self):
        # The derivation holds, but the second given word leaves the graph, or ends elsewhere in it.
        one = ((2, ((0, "a", 1), (1, "a", 0))), ((("aa", (("given", 0, 1),)),),))
        self.assertIs(accepts_classes((2, ("aa",)), one), True)
        for word in ("b", "a", "aaa", "aab", "abA"):
            self.assertIs(accepts_classes((2, ("aa", word)), one), False)
        for word in ("", "aA", "bB", "AA", "aaaa", "aabB"):
            self.assertIs(accepts_classes((2, ("aa", word)), one), True)

    def test_a_derivation_spoilt_left_out_or_in_another_sequence(self):
        graph, derivations = class_grounds(EVEN)
        for told in (derivations[1:], derivations[:-1], derivations[::-1], derivations + derivations[-1:], (),
                     derivations[1:] + derivations[:1], derivations[:1] * 3, (None,) * 3, ((("", ()),),) * 3):
            self.assertIs(accepts_classes(EVEN, (graph, told)), False)
        for version in without_a_part(derivations):
            if version != derivations and accepts_classes(EVEN, (graph, version)):
                words = plain_free_words(2, graph)
                self.assertTrue(all(plain_accepts(EVEN, word, told) for word, told in zip(words, version)))

    def test_graphs_that_are_not_neat(self):
        graph, derivations = class_grounds(SQUARES)
        vertices, edges = graph
        others = [(vertices + 1, edges), (vertices, edges[::-1]), (vertices, edges[1:]), (vertices - 1, edges)]
        others += [(vertices + 1, tuple(sorted(edges + ((1, "b", 3),)))), (vertices, list(edges)), [vertices, edges]]
        others += [(3, ((0, "a", 2), (0, "b", 1), (1, "b", 0), (2, "a", 0))), None, (), (3,), (True, ())]
        others += [(1, ((0, "a", 0),))]
        self.assertIs(accepts_classes(SQUARES, (graph, derivations)), True)
        for other in others:
            self.assertIs(accepts_classes(SQUARES, (other, derivations)), False)

    def test_great_graphs(self):
        for many in (34, 100, 101, 150):
            graph = plain_numbered(1, [(at, "a", (at + 1) % many) for at in range(many)])
            self.assertIs(is_neat(1, graph), True)
            for derivation in ((("a" * many, ()),), (("a" * many, (("given", 0, 1),) * many),), (("", ()),)):
                for given in ((), ("",), ("a",), ("aa",)):
                    self.assertIs(accepts_classes((1, given), (graph, (derivation,))), False)

    def test_other_ranks(self):
        grounds = class_grounds((1, ("aa",)))
        for rank in (1, 2, 3):
            self.assertIs(accepts_classes((rank, ("aa",)), grounds), True)
            self.assertIs(accepts_classes((rank, ("aa", "aaa")), grounds), False)
        self.assertIs(accepts_classes((1, ("a",)), class_grounds((2, ("b",)))), False)

    def test_values_of_every_other_kind(self):
        check_odd_forms(self, lambda value: accepts_classes(EVEN, value), class_grounds(EVEN))
        check_odd_forms(self, lambda value: accepts_classes((2, ()), value), ((1, ()), ()))
        graph, derivations = class_grounds(EVEN)
        for value in ((graph,), (graph, derivations, ()), (derivations, graph), (graph, None), (None, derivations)):
            self.assertIs(accepts_classes(EVEN, value), False)

    def test_kinds(self):
        graph, derivations = class_grounds(EVEN)
        self.assertEqual([told.__class__ for told in (class_grounds(EVEN), graph, derivations)], [tuple] * 3)
        self.assertEqual(graph, graph_of(EVEN))
        self.assertEqual(class_grounds((2, ("aA",))), ((1, ()), ()))


class WrongArguments(TestCase):
    def test_family(self):
        for family in EDGES:
            for function in (count_classes, first_words, class_grounds):
                check_wrong_arguments(self, function, ("family", family, NO_FAMILIES))
            for value in (((1, ()), ()), None):
                check_wrong_arguments(
                    self, lambda told: accepts_classes(told, value), ("family", family, NO_FAMILIES))

    def test_first_and_second(self):
        for family in EDGES:
            for first, second in (("a" * 24, ""), ("", "A" * 24)):
                check_wrong_arguments(
                    self, are_in_one_class, ("family", family, NO_FAMILIES),
                    ("first", first, no_words(family[0])), ("second", second, no_words(family[0])))

    def test_all_words(self):
        for word in all_words(2, 4):
            self.assertIs(are_in_one_class(EVEN, word, "a"), len(word) % 2 == 1)
