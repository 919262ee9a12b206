"""foldedways.linking: why points are identified (points [32], [33]), and how words are made (points [43], [45])."""

from unittest import TestCase

from foldedways.linking import Linking, derived
from tests.plain import plain_inverse, plain_reduced
from tests.plain_derivations import plain_product
from tests.plain_graphs import plain_identified, plain_petals
from tests.test_folding import EDGES, FAMILIES

# In these, ways along the links would be long if these did not lead from smaller classes to greater ones.
CROWDED = [(1, ("a" * 8, "a" * 7, "a" * 8, "A" * 8)), (1, ("a" * 8, "a" * 8, "a" * 7, "aaaa")), (1, ("a" * 8,) * 4)]
ALL = FAMILIES + EDGES + CROWDED


def plain_labels(given):
    """Return what is spelled from the point 0 to each point."""
    return [""] + [whole[:at + 1] for whole in map(plain_reduced, given) for at in range(len(whole))]


class Links(TestCase):
    def test_linked_points_are_the_identified_ones(self):
        for family in ALL:
            linking = Linking(family[1])
            tops = [linking.climb(point)[0] for point in range(plain_petals(family)[0])]
            self.assertEqual([tops.index(top) for top in tops], list(plain_identified(family)))

    def test_factors_make_the_label_joined_with_the_inverse_of_the_other_one(self):
        for family in ALL:
            linking, labels = Linking(family[1]), plain_labels(family[1])
            for point, label in enumerate(labels):
                top, factors = linking.climb(point)
                word = plain_reduced(label + plain_inverse(labels[top]))
                self.assertEqual(plain_product(family[1], linking.steps, factors), word)
                self.assertEqual(plain_product(family[1], linking.steps, linking.between(top, point)), plain_inverse(word))

    def test_steps_hold_and_name_only_steps_before_them(self):
        for family in ALL:
            steps = Linking(family[1]).steps
            for at, (word, factors) in enumerate(steps):
                self.assertEqual(plain_product(family[1], steps[:at], factors), word)
            self.assertLess(len(steps), plain_petals(family)[0])

    def test_no_way_is_long(self):
        for family in ALL:
            linking = Linking(family[1])
            for point in range(plain_petals(family)[0]):
                self.assertLessEqual(len(linking.climb(point)[1]), 5)

    def test_words_of_100_letters(self):
        for family in CROWDED:
            for word in ("a" * 96, "A" * 96):
                steps = derived(family[1], word)
                self.assertEqual(steps[-1][0], word)
                self.assertEqual(plain_product(family[1], steps, steps[-1][1]), word)
                self.assertLessEqual(max(len(factors) for _, factors in steps), 2000)
