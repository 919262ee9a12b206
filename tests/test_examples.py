"""The lines of the interface behind >>>, with the answers below them, and the examples of the chapters."""

from doctest import DocTestParser, DocTestRunner
from unittest import TestCase

from foldedways.roots import core, root
from foldedways.words import reduced

WORDS_AND_ROOTS = """
>>> from foldedways.roots import common_root, commute, core, root, turned_form, turning_word
>>> from foldedways.words import cancelled, compare, count_reduced, index_of_reduced, inverse, joined, nth_reduced, power, reduced
>>> reduced("abBaAcC"), inverse("abA"), joined("abA", "aab"), cancelled("abA", "aab")
('a', 'aBA', 'abab', 1)
>>> power("abA", 3), power("ab", -2), compare("b", "aa"), compare("bA", "ba")
('abbbA', 'BABA', -1, 1)
>>> count_reduced(2, 3), nth_reduced(2, 5), index_of_reduced(2, "aab")
(36, 'aa', 18)
>>> core("abaaBA"), root("abaaBA"), root("")
(('ab', 'aa'), ('abaBA', 2), ('', 0))
>>> commute("abab", "BABABA"), common_root("abab", "BABABA"), commute("a", "b")
(True, ('ab', 2, -3), False)
>>> turned_form("cbaC"), turning_word("ab", "ba"), turning_word("a", "A") is None
('ab', 'a', True)
"""


def run_examples(case, text):
    """Run the lines behind >>> and check that there are some and that none fails."""
    examples = DocTestParser().get_doctest(text, {}, "examples", None, 0)
    told = []
    outcome = DocTestRunner(verbose=False).run(examples, out=told.append)
    case.assertGreater(outcome.attempted, 0)
    case.assertEqual(outcome.failed, 0, "".join(told))


class Interface(TestCase):
    def test_words_and_roots(self):
        run_examples(self, WORDS_AND_ROOTS)


class Chapters(TestCase):
    def test_point_19(self):
        self.assertEqual(reduced("abBaAcC"), "a")
        self.assertEqual(core("abaaBA"), ("ab", "aa"))
        self.assertEqual(root("abaaBA"), ("abaBA", 2))
