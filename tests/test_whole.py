"""The whole program: points [2], [3] and [8], for every name of the interface."""

from copy import deepcopy
from importlib import import_module
from unittest import TestCase

from foldedways import errors
from foldedways.errors import BadValue, NotPossible, TextError, TooLarge, WaysError
from foldedways.workspace import Workspace
from tests.test_interface import ERRORS, FUNCTIONS

SQUARES, EVEN = (2, ("aa", "bb")), (2, ("aa", "ab", "bb"))
ACTION, SWAP = ((1, 0, 2), (2, 1, 0)), ((1, 0), (0, 1))
ONE = (("aa", (("given", 0, 1),)),)
TWO = (("aabb", (("given", 0, 1), ("given", 1, 1))),)
GRAPH = (3, ((0, "a", 1), (0, "b", 2), (1, "a", 0), (2, "b", 0)))
RECORDS = ((("give", "aa"), "aa", ("member", ONE)), (("bind", SWAP), "a", ("bound", 0)))
CALLS = {
    "words": {
        "is_word": ("abA", 2), "reduced": ("abBa",), "inverse": ("abA",), "joined": ("abA", "aab"),
        "cancelled": ("abA", "aab"), "power": ("ab", -2), "compare": ("b", "aa"), "count_reduced": (2, 3),
        "nth_reduced": (2, 5), "index_of_reduced": (2, "aab"),
    },
    "roots": {
        "core": ("abaaBA",), "root": ("abaaBA",), "commute": ("ab", "ba"), "common_root": ("abab", "BABABA"),
        "turned_form": ("cbaC",), "turning_word": ("ab", "ba"),
    },
    "actions": {
        "is_action": (ACTION, 2), "image": (ACTION, 0, "ab"), "returns": (ACTION, "aba"), "orbit": (ACTION,),
        "first_words": (ACTION,), "restricted": (ACTION,), "least_power": (ACTION, "ab"),
    },
    "telling": {"telling_word": (ACTION, SWAP), "tells_apart": (ACTION, SWAP, "b")},
    "folding": {"is_family": (SQUARES,), "identified": (SQUARES,)},
    "graphs": {
        "graph_of": (SQUARES,), "is_neat": (2, GRAPH), "walk": (SQUARES, "A"), "belongs": (SQUARES, "aa"),
        "paths": (SQUARES,),
    },
    "derivations": {
        "accepts_derivation": (SQUARES, "aabb", TWO), "derivation_for": (SQUARES, "aabb"), "expansion": (SQUARES, TWO),
        "trimmed": (SQUARES, TWO), "joined": (SQUARES, ONE, TWO), "inverted": (SQUARES, TWO),
    },
    "completing": {
        "attached": (SQUARES, "ab"), "full_action": (SQUARES,), "action_against": (SQUARES, "ab"),
        "accepts_action": (SQUARES, "a", ACTION), "further_words": (SQUARES,),
    },
    "answers": {"answer_for": (SQUARES, "ab"), "accepts_answer": (SQUARES, "aabb", ("member", TWO))},
    "parting": {
        "told_against_all": (SQUARES, ("a", "b", "ab")), "parted": (SQUARES, ("a", "aa")),
        "evidence_for": (SQUARES, ("a", "aa")),
        "accepts_parting": (SQUARES, ("a", "aa"), ((1,), (0,)), ((ONE,), ACTION)),
    },
    "bases": {
        "basis": (EVEN,), "expression_of": (EVEN, "bb"), "value_of": (EVEN, ((0, 1), (1, -1))),
        "is_choice": (EVEN, (0, 1)), "smallest_choice": (EVEN,), "is_basis": (EVEN, ("aa", "ab", "bb")),
        "basis_evidence": (SQUARES, ("bb", "aa")),
        "accepts_basis": ((1, ("aa",)), ("aa",), ((ONE,), (((0, 1),),))),
    },
    "members": {
        "count_members": (EVEN, 2), "count_up_to": (EVEN, 3), "nth_member": (SQUARES, 7),
        "index_of_member": (SQUARES, "bbaa"), "first_members": (SQUARES, 6), "least_power": (EVEN, "aba"),
        "power_evidence": (EVEN, "aba"), "accepts_power": ((1, ("aa",)), "a", 2, (ONE, ((1, 0),))),
    },
    "classes": {
        "count_classes": (EVEN,), "first_words": (EVEN,), "are_in_one_class": (EVEN, "a", "bbb"), "class_grounds": (EVEN,),
        "accepts_classes": ((1, ("aa",)), ((2, ((0, "a", 1), (1, "a", 0))), (ONE,))),
    },
    "comparing": {
        name: (SQUARES, EVEN) for name in FUNCTIONS["comparing"]
    },
    "showing": {
        "contained_evidence": (SQUARES, EVEN), "accepts_contained": ((2, ("aa",)), SQUARES, (ONE,)),
        "outside_evidence": (EVEN, SQUARES), "accepts_outside": ((2, ("b",)), (2, ("aa",)), (0, ((0, 1), (1, 0)))),
        "accepts_equal": ((2, ("aa",)), (2, ("aa",)), ((ONE,), (ONE,))),
        "accepts_apart": ((2, ("aa",)), (2, ()), "aa", (("member", ONE), ("none", ((1, 2, 0), (0, 1, 2))))),
        "common_evidence": (SQUARES, EVEN, "aabb"), "accepts_common": (SQUARES, EVEN, "aa", ("common", (ONE, ONE))),
    },
    "conjugates": {
        "conjugate_graph": (SQUARES, "ab"), "conjugate_basis": (SQUARES, "ab"),
        "is_conjugator": (SQUARES, (2, ("aa", "AbbA")), "a"), "conjugator": (SQUARES, (2, ("aa", "Abba"))),
        "conjugator_evidence": (SQUARES, (2, ("aa", "Abba")), "a"),
        "accepts_conjugator": ((2, ("aa",)), (2, ("aa",)), "a", ((ONE,), (ONE,))),
    },
    "journals": {"replayed": (2, (("give", "aa"), ("bind", SWAP))), "are_right": (2, RECORDS)},
    "scanning": {"scan": ("a2 [b, c]",)},
    "reading": {
        "next_tokens": ("[a", "word"), "read_word": (2, "a2[a,b]"), "read_family": ("2: a2, b",),
        "read_action": ("1 0; 0 1",),
    },
    "writing": {"word_text": ("aab",), "family_text": (SQUARES,), "action_text": (ACTION,)},
}
EACH = [(file, name, arguments) for file, calls in CALLS.items() for name, arguments in calls.items()]
RETURN_LISTS = {"first_members", "scan", "next_tokens"}
NO_ERRORS = {"is_word", "is_family", "is_action"}


def function_of(file, name):
    """Return a function of the interface."""
    return getattr(import_module("foldedways." + file), name)


def told(value):
    """Return a value that can be compared: of a workspace, what it tells."""
    return (value.family(), value.bounds(), value.journal()) if isinstance(value, Workspace) else value


def as_lists(value):
    """Return the value with lists for all of its tuples."""
    return [as_lists(part) for part in value] if isinstance(value, tuple) else value


def last_argument_is_judged(name):
    """Tell if every value is valid as the last argument."""
    return name.startswith("accepts_") or name in ("are_right", "is_neat", "is_family")


class Functions(TestCase):
    def test_all_of_the_interface(self):
        self.assertEqual({file: set(calls) for file, calls in CALLS.items()},
                         {file: set(functions) for file, functions in FUNCTIONS.items()})

    def test_the_same_call_returns_equal_results(self):
        before = [told(function_of(file, name)(*arguments)) for file, name, arguments in EACH]
        after = [told(function_of(file, name)(*arguments)) for file, name, arguments in reversed(EACH)]
        self.assertEqual(before, after[::-1])

    def test_kinds_of_results(self):
        for file, name, arguments in EACH:
            with self.subTest(file=file, name=name):
                result = told(function_of(file, name)(*arguments))
                self.assertEqual(isinstance(result, list), name in RETURN_LISTS)
                self.check_kinds(list(result) if isinstance(result, list) else [result])

    def check_kinds(self, values):
        """Check that there are integers, strings, True, False, None and tuples of such, and nothing else."""
        for value in values:
            self.assertIn(value.__class__, (int, str, bool, None.__class__, tuple))
            if isinstance(value, tuple):
                self.check_kinds(value)

    def test_judges_accept_the_evidence(self):
        for file, name, arguments in EACH:
            if last_argument_is_judged(name):
                with self.subTest(file=file, name=name):
                    self.assertIs(function_of(file, name)(*arguments), True)

    def test_arguments_are_left_as_they_are(self):
        for file, name, arguments in EACH:
            with self.subTest(file=file, name=name):
                given = deepcopy(arguments)
                function_of(file, name)(*given)
                self.assertEqual(given, arguments)
                if last_argument_is_judged(name):
                    lists = as_lists(arguments[-1])
                    same = deepcopy(lists)
                    self.assertIs(function_of(file, name)(*arguments[:-1], lists), False)
                    self.assertEqual(lists, same)

    def test_lists_of_every_argument_are_left_as_they_are(self):
        for file, name, arguments in EACH:
            for at, argument in enumerate(arguments):
                if not isinstance(argument, tuple):
                    continue
                lists = as_lists(argument)
                same = deepcopy(lists)
                with self.subTest(file=file, name=name, at=at):
                    try:
                        function_of(file, name)(*arguments[:at], lists, *arguments[at + 1:])
                    except BadValue:
                        pass
                    self.assertEqual(lists, same)

    def test_returned_lists_are_not_used_again(self):
        for file, name, arguments in EACH:
            if name in RETURN_LISTS:
                function = function_of(file, name)
                first = function(*arguments)
                same = list(first)
                first.reverse()
                first.append("more")
                del first[0]
                self.assertEqual(function(*arguments), same)
                self.assertIsNot(function(*arguments), function(*arguments))

    def test_wrong_arguments_are_named(self):
        for file, name, arguments in EACH:
            if name in NO_ERRORS:
                continue
            for at, parameter in enumerate(FUNCTIONS[file][name].split(", ")):
                if at == len(arguments) - 1 and last_argument_is_judged(name):
                    continue
                if name == "accepts_parting" and at == 2:
                    continue
                with self.subTest(file=file, name=name, parameter=parameter):
                    with self.assertRaises(WaysError) as caught:
                        function_of(file, name)(*arguments[:at], object(), *[None] * (len(arguments) - at - 1))
                    self.assertIs(caught.exception.__class__, BadValue)
                    self.assertEqual(caught.exception.name, parameter)


class Errors(TestCase):
    def test_classes(self):
        below = [getattr(errors, name) for name in ERRORS]
        for one in below:
            self.assertTrue(issubclass(one, WaysError) and issubclass(one, ValueError))
            self.assertEqual([other for other in below if issubclass(one, other)], [one])
        self.assertIsNot(WaysError, ValueError)

    def test_each_kind_is_caught_as_both(self):
        full = Workspace(1)
        for _ in range(10):
            full.act(("give", "a"))
            full.act(("drop", 0))
        calls = (
            (BadValue, lambda: function_of("words", "reduced")("x")),
            (TooLarge, lambda: function_of("words", "nth_reduced")(1, 100)),
            (TooLarge, lambda: full.act(("give", "a"))), (NotPossible, lambda: full.act(("drop", 0))),
            (NotPossible, lambda: function_of("journals", "replayed")(1, (("loose", 0),))),
            (TextError, lambda: function_of("scanning", "scan")("x")),
            (TextError, lambda: function_of("reading", "read_word")(1, "b")))
        for expected, call in calls:
            for base in (expected, WaysError, ValueError):
                with self.assertRaises(base) as caught:
                    call()
                self.assertIs(caught.exception.__class__, expected)

    def test_a_call_that_raises_changes_nothing(self):
        space = Workspace(2)
        space.act(("give", "aa"))
        space.act(("bind", SWAP))
        before = told(space), space.records("ab")
        calls = (
            lambda: space.act(("give", "a")), lambda: space.act(("drop", 1)), lambda: space.act(("loose", 2)),
            lambda: space.act(("bind", ((1, 2, 0), (0, 1, 2)))), lambda: space.act(None), lambda: space.act(("give", "c")),
            lambda: space.broken("c"), lambda: space.witness(None), lambda: space.records(1), lambda: space.accepts("c", 1))
        for call in calls:
            with self.assertRaises(WaysError):
                call()
            self.assertEqual((told(space), space.records("ab")), before)
