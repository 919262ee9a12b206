"""The error classes: point [8] and foldedways/errors.py of the interface."""

from unittest import TestCase

from foldedways.errors import BadValue, NotPossible, TextError, TooLarge, WaysError

BELOW = (BadValue, TooLarge, NotPossible, TextError)


class Errors(TestCase):
    def test_tree(self):
        self.assertEqual(WaysError.__bases__, (ValueError,))
        for error in BELOW:
            self.assertTrue(issubclass(error, WaysError))
            for other in BELOW:
                self.assertEqual(issubclass(error, other), error is other)

    def test_attributes(self):
        self.assertEqual(vars(BadValue("word")), {"name": "word"})
        self.assertEqual(vars(TooLarge("index")), {"what": "index"})
        self.assertEqual(vars(NotPossible("many")), {"why": "many"})
        self.assertEqual(vars(TextError(3, "a problem")), {"column": 3, "words": "a problem"})

    def test_caught_as_the_base_classes(self):
        for error in (BadValue("rank"), TooLarge("index"), NotPossible("bound"), TextError(1, "expected a letter")):
            for base in (WaysError, ValueError):
                with self.assertRaises(base) as caught:
                    raise error
                self.assertIs(caught.exception, error)

    def test_attributes_are_those_of_each_error(self):
        first, second = BadValue("first"), BadValue("second")
        self.assertEqual((first.name, second.name), ("first", "second"))
