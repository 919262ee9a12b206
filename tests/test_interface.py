"""The interface: each name stands, with its arguments, in the file under which it is listed."""

from importlib import import_module
from inspect import isclass, isfunction, signature
from unittest import TestCase

FUNCTIONS = {
    "words": {
        "is_word": "value, rank", "reduced": "word", "inverse": "word", "joined": "first, second",
        "cancelled": "first, second", "power": "word, number", "compare": "first, second",
        "count_reduced": "rank, length", "nth_reduced": "rank, index", "index_of_reduced": "rank, word",
    },
    "roots": {
        "core": "word", "root": "word", "commute": "first, second", "common_root": "first, second",
        "turned_form": "word", "turning_word": "first, second",
    },
    "actions": {
        "is_action": "value, rank", "image": "action, point, word", "returns": "action, word", "orbit": "action",
        "first_words": "action", "restricted": "action", "least_power": "action, word",
    },
    "telling": {"telling_word": "first, second", "tells_apart": "first, second, word"},
    "folding": {"is_family": "value", "identified": "family"},
    "graphs": {
        "graph_of": "family", "is_neat": "rank, value", "walk": "family, word", "belongs": "family, word",
        "paths": "family",
    },
    "derivations": {
        "accepts_derivation": "family, word, value", "derivation_for": "family, word", "expansion": "family, value",
        "trimmed": "family, value", "joined": "family, first, second", "inverted": "family, value",
    },
    "completing": {
        "attached": "family, word", "full_action": "family", "action_against": "family, word",
        "accepts_action": "family, word, value", "further_words": "family",
    },
    "answers": {"answer_for": "family, word", "accepts_answer": "family, word, value"},
    "parting": {
        "told_against_all": "family, words", "parted": "family, words", "evidence_for": "family, words",
        "accepts_parting": "family, words, parting, evidence",
    },
    "bases": {
        "basis": "family", "expression_of": "family, word", "value_of": "family, expression",
        "is_choice": "family, chosen", "smallest_choice": "family", "is_basis": "family, words",
        "basis_evidence": "family, words", "accepts_basis": "family, words, value",
    },
    "members": {
        "count_members": "family, length", "count_up_to": "family, length", "nth_member": "family, index",
        "index_of_member": "family, word", "first_members": "family, many", "least_power": "family, word",
        "power_evidence": "family, word", "accepts_power": "family, word, many, value",
    },
    "classes": {
        "count_classes": "family", "first_words": "family", "are_in_one_class": "family, first, second",
        "class_grounds": "family", "accepts_classes": "family, value",
    },
    "comparing": {
        "common_graph": "family, other", "common_basis": "family, other", "both_graph": "family, other",
        "both_basis": "family, other", "is_contained": "family, other", "are_equal": "family, other",
        "telling_word": "family, other",
    },
    "showing": {
        "contained_evidence": "family, other", "accepts_contained": "family, other, value",
        "outside_evidence": "family, other", "accepts_outside": "family, other, value",
        "accepts_equal": "family, other, value", "accepts_apart": "family, other, word, value",
        "common_evidence": "family, other, word", "accepts_common": "family, other, word, value",
    },
    "conjugates": {
        "conjugate_graph": "family, word", "conjugate_basis": "family, word", "is_conjugator": "family, other, word",
        "conjugator": "family, other", "conjugator_evidence": "family, other, word",
        "accepts_conjugator": "family, other, word, value",
    },
    "journals": {"replayed": "rank, journal", "are_right": "rank, records"},
    "scanning": {"scan": "text"},
    "reading": {
        "next_tokens": "text, kind", "read_word": "rank, text", "read_family": "text", "read_action": "text",
    },
    "writing": {"word_text": "word", "family_text": "family", "action_text": "action"},
}
WORKSPACE = {
    "act": "self, command", "undo": "self", "family": "self", "bounds": "self", "journal": "self",
    "broken": "self, word", "witness": "self, word", "accepts": "self, word, value", "records": "self, word",
    "twin": "self",
}
ERRORS = {
    "BadValue": "name", "TooLarge": "what", "NotPossible": "why", "TextError": "column, words",
}


def parameters(called):
    """Return the names of the parameters, as a text."""
    return ", ".join(signature(called).parameters)


class Interface(TestCase):
    def test_functions(self):
        for file, functions in FUNCTIONS.items():
            module = import_module("foldedways." + file)
            for name, told in functions.items():
                with self.subTest(file=file, name=name):
                    function = getattr(module, name)
                    self.assertTrue(isfunction(function))
                    self.assertEqual(function.__module__, "foldedways." + file)
                    self.assertEqual(parameters(function), told)

    def test_workspace(self):
        told = import_module("foldedways.workspace").Workspace
        self.assertTrue(isclass(told))
        self.assertEqual((told.__module__, parameters(told)), ("foldedways.workspace", "rank"))
        for name, expected in WORKSPACE.items():
            with self.subTest(name=name):
                # The very class has each method, not a base class.
                method = vars(told)[name]
                self.assertTrue(isfunction(method))
                self.assertEqual(parameters(method), expected)

    def test_error_classes(self):
        module = import_module("foldedways.errors")
        self.assertTrue(isclass(module.WaysError))
        for name, told in ERRORS.items():
            error = getattr(module, name)
            self.assertEqual(error.__module__, "foldedways.errors")
            self.assertEqual(parameters(error), told)
