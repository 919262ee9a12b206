"""foldedways.scanning: points [126], [127] and [136]."""

from random import Random
from unittest import TestCase

from foldedways.errors import BadValue, TextError
from foldedways.scanning import scan
from tests.plain_texts import KINDS, drawn_tokens, plain_problem, spaced, spoilt_tokens
from tests.wrong import NO_STRINGS, check_wrong_arguments

NO_TEXTS = NO_STRINGS + (
    "a" * 401, " " * 401, "a\n", "\n", "\na", "a\nb", "a" * 400 + "\n", "x" * 401, "(" * 401, "a\r\n", "1" * 500)
ODD = ("x", "d", "D", "\t", "\r", "\u00e4", "\u0430", "\u0410", "\uff41", "\u00aa", "\u00b2", "\u0663", "\u2460", "\u00a0",
       "\u2028", "\u3000", "\x00", "\x0b", "\x85", "\ud800", "\U0001d41a", "\u2212", "\uff08", "{", "}", "<", "+", "*", "/",
       "=", "_", "'", '"', "!", "|", "\\", "%", "~", "@", "#")
NO_TOKEN, TOO_LONG, TOO_DEEP = "no token begins here", "a number has at most 6 digits", "nested too deep"


def kind_of(characters):
    """Return the kind of a token."""
    if characters.isdigit():
        return "number"
    return "letter" if characters.isalpha() else "sign"


def told(function, *arguments):
    """Return the column and the words of the TextError that is raised."""
    try:
        function(*arguments)
    except TextError as error:
        return error.column, error.words
    return None


class Scan(TestCase):
    def test_drawn_tokens_with_drawn_blanks(self):
        chance = Random(127)
        for kind in KINDS:
            for tokens in drawn_tokens(kind, 120, kind):
                for characters in (tokens, spoilt_tokens(chance, tokens)):
                    text, columns = spaced(chance, characters)
                    found = scan(text)
                    self.assertEqual(found[:-1], [
                        (kind_of(one), one, column) for one, column in zip(characters, columns)])
                    self.assertEqual(found[-1], ("end", "", len(text) + 1))

    def test_each_token(self):
        for letter in "aAbBcC":
            self.assertEqual(scan(letter), [("letter", letter, 1), ("end", "", 2)])
        for sign in "()[],-.:;":
            self.assertEqual(scan(sign), [("sign", sign, 1), ("end", "", 2)])
        for number in ("0", "7", "10", "000", "012345", "999999", "1234567890"[4:]):
            self.assertEqual(scan(number), [("number", number, 1), ("end", "", len(number) + 1)])

    def test_numbers_are_as_long_as_possible(self):
        self.assertEqual(scan("12a3 45"), [
            ("number", "12", 1), ("letter", "a", 3), ("number", "3", 4), ("number", "45", 6), ("end", "", 8)])
        self.assertEqual([token[1] for token in scan("123456 123456")], ["123456", "123456", ""])

    def test_letters_stand_alone(self):
        self.assertEqual([token[1] for token in scan("abBc")], ["a", "b", "B", "c", ""])

    def test_no_character_and_blanks_alone(self):
        self.assertEqual(scan(""), [("end", "", 1)])
        for many in (1, 2, 399, 400):
            self.assertEqual(scan(" " * many), [("end", "", many + 1)])
        self.assertEqual(scan("  a  "), [("letter", "a", 3), ("end", "", 6)])

    def test_400_characters(self):
        self.assertEqual(len(scan("a" * 400)), 401)
        self.assertEqual(scan("a" * 400)[-1], ("end", "", 401))
        self.assertEqual(scan(" " * 399 + "1")[0], ("number", "1", 400))

    def test_kinds(self):
        found = scan("a2 (")
        self.assertEqual([one.__class__ for one in (found, found[0], *found[0])], [list, tuple, str, str, int])
        found.append(None)
        self.assertEqual(len(scan("a2 (")), 4)


class Problems(TestCase):
    def test_drawn_characters(self):
        chance, problems = Random(128), []
        for _ in range(3000):
            draws = chance.choice(("aB1 ", "(())[[]] ", "a2,-.:;[( ", "0123456789 ", "ab(1)x[ ", "([([)"))
            text = "".join(chance.choice(draws) for _ in range(chance.randint(0, 40)))
            problem = told(scan, text)
            self.assertEqual(problem, plain_problem(text))
            problems.append(problem[1] if problem else None)
        for words in (NO_TOKEN, TOO_LONG, TOO_DEEP, None):
            self.assertGreater(problems.count(words), 50)

    def test_characters_that_begin_no_token(self):
        for character in ODD:
            for ahead in ("", "a", " ", "12", "((((((((", "a) ", "  .,"):
                self.assertEqual(told(scan, ahead + character), (len(ahead) + 1, NO_TOKEN))
                self.assertEqual(told(scan, ahead + character + "a(1234567"), (len(ahead) + 1, NO_TOKEN))

    def test_digits_and_letters_elsewhere_do_not_go_on_with_a_number(self):
        for character in ("\u00b2", "\u0663", "\uff11", "_", "x", ".5x"[2]):
            self.assertEqual(told(scan, "12" + character), (3, NO_TOKEN))

    def test_numbers_of_6_and_7_digits(self):
        for number in ("123456", "000000", "000001", "999999"):
            self.assertIs(told(scan, number), None)
            self.assertEqual(told(scan, number + "0"), (1, TOO_LONG))
            self.assertEqual(told(scan, "0" + number), (1, TOO_LONG))
            self.assertEqual(told(scan, "a 1" + "0" + number), (3, TOO_LONG))
            self.assertIs(told(scan, number + " " + number), None)
            self.assertIs(told(scan, number + "a" + number), None)
        self.assertEqual(told(scan, "0000001"), (1, TOO_LONG))
        self.assertEqual(told(scan, "1" * 400), (1, TOO_LONG))

    def test_signs_within_eight_and_within_nine_others(self):
        for signs in ("((((((((", "[[[[[[[[", "([([([([", "((((([[["):
            for sign in "([":
                self.assertIs(told(scan, signs), None)
                self.assertIs(told(scan, signs[1:] + sign), None)
                self.assertEqual(told(scan, signs + sign), (9, TOO_DEEP))
                self.assertEqual(told(scan, signs + " a " + sign), (12, TOO_DEEP))
                self.assertEqual(told(scan, signs + sign + sign), (9, TOO_DEEP))
                for closing in ")]":
                    self.assertIs(told(scan, signs + closing + sign), None)
                    self.assertIs(told(scan, signs + closing + sign + closing * 9 + signs), None)
                    self.assertEqual(told(scan, signs + closing + sign + sign), (11, TOO_DEEP))

    def test_closed_by_the_sign_of_the_other_kind(self):
        for text in ("(]" * 100, "[)" * 100, "(" * 8 + "]" * 8, "[(" * 4 + "])" * 4):
            self.assertIs(told(scan, text + "[" * 8), None)
            self.assertEqual(told(scan, text + "[" * 8 + "("), (len(text) + 9, TOO_DEEP))

    def test_closing_signs_at_which_nothing_is_open(self):
        for closing in (")", "]", ")]" * 50, "]" * 300):
            self.assertIs(told(scan, closing + "(" * 8), None)
            self.assertEqual(told(scan, closing + "(" * 9), (len(closing) + 9, TOO_DEEP))
            self.assertEqual(told(scan, "()" + closing + "[" * 9), (len(closing) + 11, TOO_DEEP))

    def test_two_problems_in_either_sequence(self):
        deep = "(" * 8
        problems = {NO_TOKEN: "x", TOO_LONG: "1234567", TOO_DEEP: "["}
        for first, one in problems.items():
            for second, other in problems.items():
                text = deep + one + " " + other
                self.assertEqual(told(scan, text), (9, first))
                self.assertEqual(told(scan, deep + other + " " + one), (9, second))
        self.assertEqual(told(scan, "1234567x"), (1, TOO_LONG))
        self.assertEqual(told(scan, "x1234567"), (1, NO_TOKEN))


class WrongArguments(TestCase):
    def test_text(self):
        for text in ("", "a2", "a" * 400):
            check_wrong_arguments(self, scan, ("text", text, NO_TEXTS))

    def test_before_problems(self):
        for text in ("x" * 401, "\nx", "x\n", "1234567\n", "(" * 400 + "\n"):
            with self.assertRaises(BadValue) as caught:
                scan(text)
            self.assertEqual(caught.exception.name, "text")
        self.assertEqual(told(scan, "\r"), (1, NO_TOKEN))
