"""The lines of the interface behind >>>, with the answers below them, and the examples of the chapters."""

from doctest import DocTestParser, DocTestRunner
from pathlib import Path
from unittest import TestCase

from foldedways.actions import image, least_power
from foldedways.answers import answer_for
from foldedways.bases import basis, smallest_choice
from foldedways.classes import are_in_one_class, count_classes, first_words
from foldedways.comparing import both_basis, common_basis, telling_word
from foldedways.completing import attached, full_action, further_words
from foldedways.conjugates import conjugate_basis, conjugator
from foldedways.derivations import accepts_derivation, derivation_for, expansion
from foldedways.errors import NotPossible, TextError
from foldedways.graphs import graph_of, paths
from foldedways.members import first_members
from foldedways.parting import accepts_parting, evidence_for, parted
from foldedways.reading import read_word
from foldedways.roots import core, root
from foldedways.words import reduced
from foldedways.workspace import Workspace

WORDS_AND_ROOTS = """
>>> from foldedways.roots import common_root, commute, core, root, turned_form, turning_word
>>> from foldedways.words import cancelled, compare, count_reduced, index_of_reduced, inverse, joined, nth_reduced, power, reduced
>>> reduced("abBaAcC"), inverse("abA"), joined("abA", "aab"), cancelled("abA", "aab")
('a', 'aBA', 'abab', 1)
>>> power("abA", 3), power("ab", -2), compare("b", "aa"), compare("bA", "ba")
('abbbA', 'BABA', -1, 1)
>>> count_reduced(2, 3), nth_reduced(2, 5), index_of_reduced(2, "aab")
(36, 'aa', 18)
>>> core("abaaBA"), root("abaaBA"), root("")
(('ab', 'aa'), ('abaBA', 2), ('', 0))
>>> commute("abab", "BABABA"), common_root("abab", "BABABA"), commute("a", "b")
(True, ('ab', 2, -3), False)
>>> turned_form("cbaC"), turning_word("ab", "ba"), turning_word("a", "A") is None
('ab', 'a', True)
"""
ACTIONS_AND_TELLING = """
>>> from foldedways.actions import first_words, image, least_power, orbit, restricted, returns
>>> from foldedways.telling import telling_word, tells_apart
>>> action = ((1, 0, 2), (2, 1, 0))
>>> image(action, 0, "ab"), returns(action, "aba"), least_power(action, "ab")
(1, True, 3)
>>> orbit(((3, 0, 2, 1),)), first_words(((3, 0, 2, 1),)), restricted(((3, 0, 2, 1),))
((0, 3, 1), ('', 'a', 'A'), ((1, 2, 0),))
>>> telling_word(action, ((2, 1, 0), (1, 0, 2))), telling_word(action, ((1, 0), (0, 1)))
(None, 'b')
>>> telling_word(((1, 2, 0),), ((1, 0),)), tells_apart(((1, 2, 0),), ((1, 0),), "aaa")
('aa', True)
"""
FOLDING_AND_GRAPHS = """
>>> from foldedways.folding import identified
>>> from foldedways.graphs import belongs, graph_of, is_neat, paths, walk
>>> squares = (2, ("aa", "bb"))
>>> graph_of(squares), paths(squares)
((3, ((0, 'a', 1), (0, 'b', 2), (1, 'a', 0), (2, 'b', 0))), ('', 'a', 'b'))
>>> identified(squares), walk(squares, "A"), walk(squares, "ab"), walk(squares, "abBA")
((0, 1, 0, 3, 0), 1, None, 0)
>>> graph_of((1, ("aaaa", "aaaaaa"))), belongs((1, ("aaaa", "aaaaaa")), "aa")
((2, ((0, 'a', 1), (1, 'a', 0))), True)
>>> graph_of((2, ("baB",))), graph_of((2, ("abAB",)))
((2, ((0, 'b', 1), (1, 'a', 1))), (4, ((0, 'a', 1), (0, 'b', 2), (1, 'b', 3), (2, 'a', 3))))
>>> is_neat(2, graph_of(squares)), is_neat(2, (2, ((0, "a", 1),))), is_neat(1, (1, ()))
(True, False, True)
"""
DERIVATIONS = """
>>> from foldedways.derivations import accepts_derivation, derivation_for, expansion, inverted, joined, trimmed
>>> family = (2, ("ab", "b"))
>>> by_hand = (("ab", (("given", 0, 1),)), ("b", (("given", 1, 1),)), ("a", (("step", 0, 1), ("step", 1, -1))))
>>> accepts_derivation(family, "a", by_hand), accepts_derivation(family, "abB", by_hand), accepts_derivation(family, "b", by_hand)
(True, True, False)
>>> expansion(family, by_hand), trimmed(family, by_hand) == by_hand
(((0, 1), (1, -1)), True)
>>> inverted(family, by_hand)[3], joined(family, by_hand, by_hand)[6]
(('A', (('step', 2, -1),)), ('aa', (('step', 2, 1), ('step', 5, 1))))
>>> trimmed(family, by_hand + (("bb", (("step", 1, 1), ("step", 1, 1))),))
(('b', (('given', 1, 1),)), ('bb', (('step', 0, 1), ('step', 0, 1))))
>>> accepts_derivation(family, "a", derivation_for(family, "a")), derivation_for((2, ("aa",)), "a") is None
(True, True)
"""
COMPLETING = """
>>> from foldedways.completing import accepts_action, action_against, attached, full_action, further_words
>>> family = (2, ("aa", "bb"))
>>> full_action(family), further_words(family)
(((1, 0, 2), (2, 1, 0)), ('abA', 'baB'))
>>> attached(family, "ab")
((4, ((0, 'a', 1), (0, 'b', 2), (1, 'a', 0), (1, 'b', 3), (2, 'b', 0))), 3)
>>> action_against(family, "ab")
((1, 0, 2, 3), (2, 3, 0, 1))
>>> action_against(family, "aaBB") is None
True
>>> accepts_action(family, "a", ((1, 0, 2), (2, 1, 0))), accepts_action(family, "aa", ((1, 0, 2), (2, 1, 0)))
(True, False)
>>> full_action((1, ())), further_words((1, ())), action_against((1, ()), "a")
(((0,),), ('a',), ((1, 0),))
"""
ANSWERS_AND_PARTING = """
>>> from foldedways.answers import accepts_answer, answer_for
>>> from foldedways.parting import accepts_parting, evidence_for, parted, told_against_all
>>> family = (2, ("aa", "bb"))
>>> answer_for(family, "abba")[0], answer_for(family, "a")
('none', ('none', ((1, 0, 2), (2, 1, 0))))
>>> answer_for(family, "aabb")[0], accepts_answer(family, "aabb", ("member", (("aabb", (("given", 0, 1), ("given", 1, 1))),)))
('member', True)
>>> accepts_answer(family, "aabb", ("none", ((1, 0, 2), (2, 1, 0)))), accepts_answer(family, "ab", ("none", ((1, 0, 2), (0, 2, 1))))
(False, True)
>>> told_against_all(family, ("a", "b", "ab"))
((1, 0, 2, 3), (2, 3, 0, 1))
>>> parted(family, ("a", "aa", "BB")), accepts_parting(family, ("a", "aa"), ((1,), (0,)), evidence_for(family, ("a", "aa")))
(((1, 2), (0,)), True)
"""
BASES = """
>>> from foldedways.bases import accepts_basis, basis, basis_evidence, expression_of, is_basis, is_choice, smallest_choice, value_of
>>> family = (2, ("aa", "ab", "bb"))
>>> basis(family), expression_of(family, "bb"), expression_of(family, "aba") is None
(('bA', 'aa', 'ab'), ((0, 1), (2, 1)), True)
>>> value_of(family, ((0, -1), (1, 1), (0, 1), (0, -1))), smallest_choice(family), is_choice(family, (0, 1))
('aBaa', (0, 1, 2), False)
>>> basis((1, ("aa", "aaa"))), smallest_choice((1, ("aa", "aaa"))), smallest_choice((1, ("aaaa", "aaaaaa", "aa")))
(('a',), (0, 1), (2,))
>>> is_basis(family, ("aa", "ab", "bb")), is_basis((1, ("aa", "aaa")), ("aa", "aaa"))
(True, False)
>>> accepts_basis(family, ("aB", "aa", "bb"), basis_evidence(family, ("aB", "aa", "bb")))
True
"""
MEMBERS_AND_CLASSES = """
>>> from foldedways.classes import accepts_classes, are_in_one_class, class_grounds, count_classes, first_words
>>> from foldedways.members import accepts_power, count_members, count_up_to, first_members, index_of_member, least_power, nth_member, power_evidence
>>> squares = (2, ("aa", "bb"))
>>> even = (2, ("aa", "ab", "bb"))
>>> [count_members(squares, length) for length in range(5)], [count_members(even, length) for length in range(5)]
([1, 0, 4, 0, 12], [1, 0, 12, 0, 108])
>>> first_members(squares, 6), nth_member(squares, 7), index_of_member(squares, "bbaa"), count_up_to(squares, 4)
(['', 'aa', 'AA', 'bb', 'BB', 'aaaa'], 'aaBB', 11, 17)
>>> count_classes(squares) is None, count_classes(even), first_words(even)
(True, 2, ('', 'a'))
>>> are_in_one_class(even, "a", "bbb"), are_in_one_class(squares, "ab", "ba")
(True, False)
>>> least_power(squares, "abaBA"), least_power(even, "aba"), least_power(squares, "ab") is None
(None, 2, True)
>>> accepts_power(even, "aba", 2, power_evidence(even, "aba")), accepts_power(even, "aba", 2, (((), ()), ((1, 0), (1, 0))))
(True, False)
>>> accepts_classes(even, class_grounds(even)), accepts_classes(squares, class_grounds(even))
(True, False)
"""
COMPARING_AND_SHOWING = """
>>> from foldedways.comparing import are_equal, both_basis, common_basis, common_graph, is_contained, telling_word
>>> from foldedways.showing import accepts_apart, accepts_common, accepts_contained, common_evidence, contained_evidence, outside_evidence
>>> common_basis((1, ("aa",)), (1, ("aaa",))), both_basis((1, ("aa",)), (1, ("aaa",))), telling_word((1, ("aa",)), (1, ("aaa",)))
(('aaaaaa',), ('a',), 'aa')
>>> one, other = (2, ("aa", "b")), (2, ("a", "bb"))
>>> common_basis(one, other), is_contained(one, other), telling_word(one, other)
(('aa', 'bb'), False, 'a')
>>> common_graph((2, ("ab",)), (2, ("aB",))), both_basis((2, ("ab",)), (2, ("aB",)))
((1, ()), ('bA', 'ab'))
>>> outside_evidence(one, other)
(1, ((0, 1), (1, 0)))
>>> accepts_contained((1, ("aaaa",)), (1, ("aa",)), contained_evidence((1, ("aaaa",)), (1, ("aa",))))
True
>>> are_equal((2, ("aA",)), (2, ())), common_evidence(one, other, "a")
(True, ('not', (0, ((1, 0), (0, 1)))))
>>> accepts_common(one, other, "aab", common_evidence(one, other, "aab")), accepts_apart(one, other, "a", (("none", ((1, 0), (0, 1))), ("member", (("a", (("given", 0, 1),)),))))
(True, True)
"""
CONJUGATES = """
>>> from foldedways.conjugates import accepts_conjugator, conjugate_basis, conjugate_graph, conjugator, conjugator_evidence, is_conjugator
>>> conjugate_basis((2, ("a",)), "b"), conjugate_graph((2, ("a",)), "aB"), conjugate_basis((2, ("aa", "bb")), "a")
(('Bab',), (2, ((0, 'b', 1), (1, 'a', 1))), ('aa', 'abbA'))
>>> conjugator((2, ("a",)), (2, ("baB",))), conjugator((2, ("a",)), (2, ("Bab",))), conjugator((2, ("a",)), (2, ("b",)))
('B', 'b', None)
>>> conjugator((2, ("abA",)), (2, ("BAbab",))), conjugator((2, ("BAbab",)), (2, ("abA",)))
('aab', 'BAA')
>>> is_conjugator((2, ("a",)), (2, ("baB",)), "aaB"), is_conjugator((2, ("a",)), (2, ("baB",)), "b")
(True, False)
>>> one, other = (2, ("abA",)), (2, ("BAbab",))
>>> accepts_conjugator(one, other, "aab", conjugator_evidence(one, other, "aab")), conjugator_evidence(one, other, "b") is None
(True, True)
"""
WORKSPACE_AND_JOURNALS = """
>>> from foldedways.journals import are_right, replayed
>>> from foldedways.workspace import Workspace
>>> space = Workspace(2)
>>> space.act(("give", "aa")), space.act(("bind", ((1, 0), (0, 1)))), space.act(("give", "bBb"))
(1, 2, 3)
>>> space.family(), space.broken("ab"), space.witness("ab")
((2, ('aa', 'bBb')), (0,), ('bound', 0))
>>> space.witness("aab")[0], space.accepts("aba", ("bound", 0)), space.accepts("ab", ("bound", 1))
('member', False, False)
>>> are_right(2, space.records("aab")), replayed(2, space.journal()).family() == space.family()
(True, True)
>>> space.undo(), space.family(), space.witness("aab")[0]
(('give', 'bBb'), (2, ('aa',)), 'none')
"""
READING_AND_WRITING = """
>>> from foldedways.reading import next_tokens, read_action, read_family, read_word
>>> from foldedways.writing import action_text, family_text, word_text
>>> read_word(2, "a2(bA)-1[a,b]"), word_text("aaaBabAB"), read_word(1, ".")
('aaaBabAB', 'a3BabAB', '')
>>> read_family("2: a2, (ab)2, ."), family_text((2, ("aa", "abab", "")))
((2, ('aa', 'abab', '')), '2: a2, abab, .')
>>> read_action("1 0 2; 2 1 0"), action_text(((1, 0, 2), (2, 1, 0)))
(((1, 0, 2), (2, 1, 0)), '1 0 2; 2 1 0')
>>> next_tokens("a2", "word"), next_tokens("[a", "word")
(['a letter', '"("', '"["', 'the end'], ['a letter', 'a number', '"("', '"["', '","', '"-"'])
"""


def run_examples(case, text):
    """Run the lines behind >>> and check that there are some and that none fails."""
    examples = DocTestParser().get_doctest(text, {}, "examples", None, 0)
    told = []
    outcome = DocTestRunner(verbose=False).run(examples, out=told.append)
    case.assertGreater(outcome.attempted, 0)
    case.assertEqual(outcome.failed, 0, "".join(told))


class Interface(TestCase):
    def test_words_and_roots(self):
        run_examples(self, WORDS_AND_ROOTS)

    def test_actions_and_telling(self):
        run_examples(self, ACTIONS_AND_TELLING)

    def test_folding_and_graphs(self):
        run_examples(self, FOLDING_AND_GRAPHS)

    def test_derivations(self):
        run_examples(self, DERIVATIONS)

    def test_completing(self):
        run_examples(self, COMPLETING)

    def test_answers_and_parting(self):
        run_examples(self, ANSWERS_AND_PARTING)

    def test_bases(self):
        run_examples(self, BASES)

    def test_members_and_classes(self):
        run_examples(self, MEMBERS_AND_CLASSES)

    def test_comparing_and_showing(self):
        run_examples(self, COMPARING_AND_SHOWING)

    def test_conjugates(self):
        run_examples(self, CONJUGATES)

    def test_workspace_and_journals(self):
        run_examples(self, WORKSPACE_AND_JOURNALS)

    def test_reading_and_writing(self):
        run_examples(self, READING_AND_WRITING)

    def test_the_last_call(self):
        with self.assertRaises(TextError) as caught:
            read_word(2, "ab(ab)12")
        self.assertEqual((caught.exception.column, caught.exception.words), (3, "a word has at most 24 letters"))

    def test_the_read_me(self):
        text = (Path(__file__).resolve().parent.parent / "README.md").read_text(encoding="utf-8")
        run_examples(self, text.replace("```", ""))


class Chapters(TestCase):
    def test_point_19(self):
        self.assertEqual(reduced("abBaAcC"), "a")
        self.assertEqual(core("abaaBA"), ("ab", "aa"))
        self.assertEqual(root("abaaBA"), ("abaBA", 2))

    def test_point_29(self):
        action = ((1, 0, 2), (2, 1, 0))
        self.assertEqual([image(action, point, "ab") for point in (0, 1, 2)], [1, 2, 0])
        self.assertEqual(least_power(action, "ab"), 3)

    def test_point_41(self):
        self.assertEqual(graph_of((2, ("aa", "bb")))[0], 3)
        self.assertEqual(graph_of((1, ("aaaa", "aaaaaa")))[0], 2)
        self.assertEqual(graph_of((1, ("aaaa", "aaaaaa"))), graph_of((1, ("aa",))))

    def test_point_52(self):
        family = (2, ("ab", "b"))
        value = derivation_for(family, "a")
        self.assertIs(accepts_derivation(family, "a", value), True)
        self.assertEqual(expansion(family, value), ((0, 1), (1, -1)))

    def test_point_62(self):
        family = (2, ("aa", "bb"))
        self.assertEqual(paths(family), ("", "a", "b"))
        self.assertEqual(full_action(family), ((1, 0, 2), (2, 1, 0)))
        self.assertEqual(further_words(family), ("abA", "baB"))
        (vertices, edges), end = attached(family, "ab")
        self.assertEqual((vertices, end), (4, 3))
        self.assertIn((1, "b", 3), edges)

    def test_point_70(self):
        family = (2, ("aa", "bb"))
        self.assertEqual(answer_for(family, "aabb")[0], "member")
        self.assertEqual(answer_for(family, "abba")[0], "none")
        self.assertNotIn((1, "b"), [(start, letter) for start, letter, _ in graph_of(family)[1]])
        self.assertEqual(parted(family, ("a", "b", "ab")), ((), (0, 1, 2)))
        evidence = evidence_for(family, ("a", "b", "ab"))
        self.assertIs(accepts_parting(family, ("a", "b", "ab"), ((), (0, 1, 2)), evidence), True)

    def test_point_81(self):
        family = (2, ("aa", "ab", "bb"))
        vertices, edges = graph_of(family)
        self.assertEqual((vertices, len(edges)), (2, 4))
        self.assertEqual((paths(family), basis(family)), (("", "a"), ("bA", "aa", "ab")))
        self.assertEqual(basis((1, ("aa", "aaa"))), ("a",))
        self.assertEqual(smallest_choice((1, ("aa", "aaa"))), (0, 1))

    def test_point_92(self):
        family = (2, ("aa", "bb"))
        self.assertIs(count_classes(family), None)
        self.assertEqual([word for word in first_members(family, 20) if len(word) == 2], ["aa", "AA", "bb", "BB"])
        more = (2, ("aa", "bb", "ab"))
        self.assertEqual((count_classes(more), first_words(more)), (2, ("", "a")))
        for word in ("", "ab", "aBaB", "bA", "a", "abA", "BBB"):
            self.assertIs(are_in_one_class(more, word, ""), len(word) % 2 == 0)

    def test_point_104(self):
        twos, threes = (1, ("aa",)), (1, ("aaa",))
        self.assertEqual(common_basis(twos, threes), ("aaaaaa",))
        self.assertEqual(both_basis(twos, threes), ("a",))
        self.assertEqual(telling_word(twos, threes), "aa")

    def test_point_114(self):
        self.assertEqual(conjugate_basis((2, ("a",)), "b"), ("Bab",))
        self.assertEqual(conjugator((2, ("a",)), (2, ("baB",))), "B")
        self.assertIs(conjugator((2, ("a",)), (2, ("b",))), None)

    def test_point_125(self):
        space = Workspace(2)
        space.act(("give", "aa"))
        space.act(("bind", ((1, 0), (0, 1))))
        with self.assertRaises(NotPossible) as caught:
            space.act(("give", "a"))
        self.assertEqual(caught.exception.why, "bound")
        self.assertEqual(space.act(("give", "b")), 3)

    def test_point_136(self):
        self.assertEqual(read_word(3, "a2(bA)-1[a,b]"), "aa" + "aB" + "abAB")
