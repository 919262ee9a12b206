"""foldedways.folding: points [7], [32], [33], [40]."""

from random import Random
from unittest import TestCase

from foldedways.folding import identified, is_family
from tests.plain import all_words
from tests.plain_graphs import plain_identified, plain_petals, some_families
from tests.wrong import NO_LETTERS, NO_RANKS, NO_STRINGS, NO_TUPLES, check_wrong_arguments

FAMILIES = [family for rank in (1, 2, 3) for family in some_families(80, rank, rank)]
EDGES = [
    (1, ()), (2, ()), (3, ()), (1, ("",)), (3, ("", "aA", "", "cCbB")), (1, ("a" * 8,) * 4), (2, ("abABabAB",) * 4),
    (3, ("abcabcab", "cbacbacb", "aBcAbCaB", "CCCCCCCC")), (2, ("aA" * 4,) * 4), (1, ("aaaa", "aaaaaa")),
    (1, ("a" * 8, "A" * 7, "a" * 6, "A" * 5)), (2, ("abbA", "aBBA", "ab", "BA")),
]
NEAR_FAMILIES = (
    (), (2,), ((),), (2, (), ()), (2, ("a",), 1), ("a", "b"), ((), 2), (("a",), 2), [2, ()], [2, ["a"]], (2, ["a"]),
    (2, []), (2, "ab"), (2, ""), (2, None), (2, 1), (2, {"a"}), (2, {"a": "b"}), (2, b"ab"), (2, ("a", ("b",))),
    (2, ("a",) * 5), (2, ("",) * 5), (1, ("a", "aa", "aaa", "aaaa", "aaaaa")), (2, ("a" * 9,)), (2, ("aA" * 4 + "a",)),
    (2, ("a", "b" * 9)), (3, ("a" * 24,)), (3, ("", "", "", "c" * 9)), (1, ("b",)), (1, ("aB",)), (1, ("a", "b")),
    (2, ("c",)), (2, ("aabbC",)), (2, ("a", "b", "c")), (1, ("aaac",)), (True, ()), (True, ("a",)), (False, ()),
    "2: a", {2: ("a",)}, {2, ()}, ((2, ()),), (2, ((2, ()),)),
)
NO_FAMILIES = NO_TUPLES + NEAR_FAMILIES + tuple((rank, ()) for rank in NO_RANKS)


class IsFamily(TestCase):
    def test_families(self):
        for family in FAMILIES + EDGES:
            self.assertIs(is_family(family), True)
        for rank in (1, 2, 3):
            for word in all_words(rank, 2):
                for many in range(5):
                    self.assertIs(is_family((rank, (word,) * many)), True)

    def test_unreduced_and_empty_given_words(self):
        self.assertIs(is_family((1, ("", "aA", "Aa", "aaAA"))), True)
        self.assertIs(is_family((2, ("aA" * 4, "bBbBbBbB"))), True)

    def test_values_near_families(self):
        for value in NO_FAMILIES:
            with self.subTest(value=value):
                self.assertIs(is_family(value), False)

    def test_given_words_that_are_none(self):
        for value in NO_STRINGS + NO_LETTERS:
            for given in ((value,), ("a", value), (value, "a"), ("", "", "", value)):
                with self.subTest(given=given):
                    self.assertIs(is_family((3, given)), False)

    def test_other_ranks(self):
        for rank in NO_RANKS:
            for given in ((), ("a",), ("",)):
                with self.subTest(rank=rank, given=given):
                    self.assertIs(is_family((rank, given)), False)

    def test_lists_are_left_as_they_are(self):
        value = [2, ["a", "b"]]
        self.assertIs(is_family(value), False)
        self.assertEqual(value, [2, ["a", "b"]])


class Identified(TestCase):
    def test_rules_applied_plainly(self):
        for family in FAMILIES + EDGES:
            self.assertEqual(identified(family), plain_identified(family))

    def test_in_whatever_sequence(self):
        chance = Random(33)
        for family in FAMILIES:
            self.assertEqual(identified(family), plain_identified(family, chance))

    def test_points_are_numbered_along_the_petals(self):
        self.assertEqual(identified((3, ("abc",))), (0, 1, 2, 0))
        self.assertEqual(identified((3, ("abc", "", "Cb"))), (0, 1, 2, 0, 2, 0))
        self.assertEqual(identified((2, ("aa", "bb"))), (0, 1, 0, 3, 0))
        self.assertEqual(identified((2, ("bBaa", "aaAbb"))), (0, 1, 0, 1, 4, 0))

    def test_capital_letters_lead_to_their_vertex(self):
        self.assertEqual(identified((2, ("aBA",))), (0, 1, 1, 0))
        self.assertEqual(identified((2, ("AB", "Ab"))), (0, 1, 0, 1, 0))
        self.assertEqual(identified((1, ("AAAA", "aaaaaa"))), (0, 1, 0, 1, 0, 1, 0, 1, 0, 1, 0))

    def test_as_many_as_points(self):
        for family in FAMILIES + EDGES:
            least = identified(family)
            self.assertEqual(len(least), plain_petals(family)[0])
            self.assertEqual([least[point] for point in least], list(least))
            self.assertTrue(all(least[point] <= point for point in range(len(least))))

    def test_no_given_words_and_empty_ones(self):
        for rank in (1, 2, 3):
            for given in ((), ("",), ("aA",), ("", "Aa", "")):
                self.assertEqual(identified((rank, given)), (0,))

    def test_kinds(self):
        self.assertIs(identified((2, ("ab",))).__class__, tuple)
        for point in identified((2, ("ab",))):
            self.assertIs(point.__class__, int)

    def test_wrong_arguments(self):
        for family in EDGES:
            check_wrong_arguments(self, identified, ("family", family, NO_FAMILIES))
