"""The lines of the interface behind >>>, with the answers below them, and the examples of the chapters."""

from doctest import DocTestParser, DocTestRunner
from unittest import TestCase

from foldedways.actions import image, least_power
from foldedways.graphs import graph_of
from foldedways.roots import core, root
from foldedways.words import reduced

WORDS_AND_ROOTS = """
>>> from foldedways.roots import common_root, commute, core, root, turned_form, turning_word
>>> from foldedways.words import cancelled, compare, count_reduced, index_of_reduced, inverse, joined, nth_reduced, power, reduced
>>> reduced("abBaAcC"), inverse("abA"), joined("abA", "aab"), cancelled("abA", "aab")
('a', 'aBA', 'abab', 1)
>>> power("abA", 3), power("ab", -2), compare("b", "aa"), compare("bA", "ba")
('abbbA', 'BABA', -1, 1)
>>> count_reduced(2, 3), nth_reduced(2, 5), index_of_reduced(2, "aab")
(36, 'aa', 18)
>>> core("abaaBA"), root("abaaBA"), root("")
(('ab', 'aa'), ('abaBA', 2), ('', 0))
>>> commute("abab", "BABABA"), common_root("abab", "BABABA"), commute("a", "b")
(True, ('ab', 2, -3), False)
>>> turned_form("cbaC"), turning_word("ab", "ba"), turning_word("a", "A") is None
('ab', 'a', True)
"""
ACTIONS_AND_TELLING = """
>>> from foldedways.actions import first_words, image, least_power, orbit, restricted, returns
>>> from foldedways.telling import telling_word, tells_apart
>>> action = ((1, 0, 2), (2, 1, 0))
>>> image(action, 0, "ab"), returns(action, "aba"), least_power(action, "ab")
(1, True, 3)
>>> orbit(((3, 0, 2, 1),)), first_words(((3, 0, 2, 1),)), restricted(((3, 0, 2, 1),))
((0, 3, 1), ('', 'a', 'A'), ((1, 2, 0),))
>>> telling_word(action, ((2, 1, 0), (1, 0, 2))), telling_word(action, ((1, 0), (0, 1)))
(None, 'b')
>>> telling_word(((1, 2, 0),), ((1, 0),)), tells_apart(((1, 2, 0),), ((1, 0),), "aaa")
('aa', True)
"""
FOLDING_AND_GRAPHS = """
>>> from foldedways.folding import identified
>>> from foldedways.graphs import belongs, graph_of, is_neat, paths, walk
>>> squares = (2, ("aa", "bb"))
>>> graph_of(squares), paths(squares)
((3, ((0, 'a', 1), (0, 'b', 2), (1, 'a', 0), (2, 'b', 0))), ('', 'a', 'b'))
>>> identified(squares), walk(squares, "A"), walk(squares, "ab"), walk(squares, "abBA")
((0, 1, 0, 3, 0), 1, None, 0)
>>> graph_of((1, ("aaaa", "aaaaaa"))), belongs((1, ("aaaa", "aaaaaa")), "aa")
((2, ((0, 'a', 1), (1, 'a', 0))), True)
>>> graph_of((2, ("baB",))), graph_of((2, ("abAB",)))
((2, ((0, 'b', 1), (1, 'a', 1))), (4, ((0, 'a', 1), (0, 'b', 2), (1, 'b', 3), (2, 'a', 3))))
>>> is_neat(2, graph_of(squares)), is_neat(2, (2, ((0, "a", 1),))), is_neat(1, (1, ()))
(True, False, True)
"""


def run_examples(case, text):
    """Run the lines behind >>> and check that there are some and that none fails."""
    examples = DocTestParser().get_doctest(text, {}, "examples", None, 0)
    told = []
    outcome = DocTestRunner(verbose=False).run(examples, out=told.append)
    case.assertGreater(outcome.attempted, 0)
    case.assertEqual(outcome.failed, 0, "".join(told))


class Interface(TestCase):
    def test_words_and_roots(self):
        run_examples(self, WORDS_AND_ROOTS)

    def test_actions_and_telling(self):
        run_examples(self, ACTIONS_AND_TELLING)

    def test_folding_and_graphs(self):
        run_examples(self, FOLDING_AND_GRAPHS)


class Chapters(TestCase):
    def test_point_19(self):
        self.assertEqual(reduced("abBaAcC"), "a")
        self.assertEqual(core("abaaBA"), ("ab", "aa"))
        self.assertEqual(root("abaaBA"), ("abaBA", 2))

    def test_point_29(self):
        action = ((1, 0, 2), (2, 1, 0))
        self.assertEqual([image(action, point, "ab") for point in (0, 1, 2)], [1, 2, 0])
        self.assertEqual(least_power(action, "ab"), 3)

    def test_point_41(self):
        self.assertEqual(graph_of((2, ("aa", "bb")))[0], 3)
        self.assertEqual(graph_of((1, ("aaaa", "aaaaaa")))[0], 2)
        self.assertEqual(graph_of((1, ("aaaa", "aaaaaa"))), graph_of((1, ("aa",))))
