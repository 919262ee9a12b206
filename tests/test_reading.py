"""foldedways.reading: points [128] to [133], [135] and [136]."""

from random import Random
from unittest import TestCase

from foldedways.errors import BadValue
from foldedways.reading import next_tokens, read_action, read_family, read_word
from foldedways.scanning import scan
from tests.plain_texts import (
    KINDS, ORDER, Problem, coming_at, drawn_tokens, expected, kind_of, plain_action, plain_family, plain_word, spaced,
    spoilt_tokens)
from tests.test_scanning import NO_TEXTS, NO_TOKEN, TOO_DEEP, TOO_LONG, told
from tests.wrong import NO_RANKS, Unequal, check_wrong_arguments

NO_LETTER, LONG_WORD = "there is no such letter", "a word has at most 24 letters"
BAD_RANK, MANY_WORDS = "a rank is from 1 to 3", "there are at most 4 given words"
LONG_GIVEN = "a given word has at most 8 letters"
MANY_ROWS, MANY_POINTS = "there are at most 3 letters", "there are at most 60 points"
AGAIN, OTHER_POINTS, TOO_GREAT = "this image stands already", "all letters have the same points", "an image is too great"
READERS = {"word": lambda text: read_word(3, text), "family": read_family, "action": read_action}
SPELLED = ["a letter", '"("', '"["', '"."']


def drawn_texts(kind, many, seed):
    """Draw texts of a kind, some of them spoilt: their characters, columns, and tokens."""
    chance = Random(seed)
    texts = []
    for tokens in drawn_tokens(kind, many, seed):
        for characters in (tokens, spoilt_tokens(chance, tokens), spoilt_tokens(chance, tokens)):
            text, columns = spaced(chance, characters)
            texts.append((text, columns, [kind_of(one) for one in characters], characters))
    return texts


class Grammar(TestCase):
    def test_what_can_come_at_every_place(self):
        seen = set()
        for kind in KINDS:
            for text, columns, tokens, _ in drawn_texts(kind, 60, kind):
                told_at = coming_at(kind, tokens)
                for many, coming in enumerate(told_at):
                    place = len(text) if many == len(tokens) else columns[many] - 1
                    self.assertEqual(next_tokens(text[:place], kind), coming)
                    seen.add((kind, tuple(coming)))
                if len(told_at) <= len(tokens):
                    problem = columns[len(told_at) - 1], expected(told_at[-1])
                    self.assertEqual(told(next_tokens, text, kind), problem)
                    self.assertEqual(told(READERS[kind], text), problem)
        self.assertGreater(len(seen), 18)

    def test_the_end_in_the_readers(self):
        ends = 0
        for kind in KINDS:
            for text, columns, tokens, _ in drawn_texts(kind, 60, kind + "!"):
                told_at = coming_at(kind, tokens)
                if len(told_at) > len(tokens) and "the end" not in told_at[-1]:
                    self.assertEqual(told(READERS[kind], text), (len(text) + 1, expected(told_at[-1])))
                    ends += 1
        self.assertGreater(ends, 20)

    def test_by_hand(self):
        for text, kind, coming in (
                ("", "word", SPELLED), (".", "word", ["the end"]), ("(", "word", SPELLED), ("(.", "word", ['")"']),
                ("a", "word", ["a letter", "a number", '"("', '"["', '"-"', "the end"]),
                ("a-", "word", ["a number"]), ("a-2", "word", ["a letter", '"("', '"["', "the end"]),
                ("(a", "word", ["a letter", "a number", '"("', '")"', '"["', '"-"']),
                ("(a2", "word", ["a letter", '"("', '")"', '"["']), ("[.", "word", ['","']), ("[.,", "word", SPELLED),
                ("[.,.", "word", ['"]"']), ("[a,b2", "word", ["a letter", '"("', '"["', '"]"']),
                ("[a,b]", "word", ["a letter", "a number", '"("', '"["', '"-"', "the end"]),
                ("", "family", ["a number"]), ("2", "family", ['":"']), ("2:", "family", SPELLED + ["the end"]),
                ("9:.", "family", ['","', "the end"]), ("2:a,", "family", SPELLED),
                ("2:a2", "family", ["a letter", '"("', '"["', '","', "the end"]),
                ("2:[a", "family", ["a letter", "a number", '"("', '"["', '","', '"-"']),
                ("2:(a)", "family", ["a letter", "a number", '"("', '"["', '","', '"-"', "the end"]),
                ("", "action", ["a number"]), ("1", "action", ["a number", '";"', "the end"]),
                ("1 0;", "action", ["a number"]), ("1;1", "action", ["a number", '";"', "the end"])):
            self.assertEqual(next_tokens(text, kind), coming)
            self.assertEqual(coming, sorted(coming, key=ORDER.index))

    def test_the_words_of_problems(self):
        self.assertEqual(told(read_word, 2, ""), (1, 'expected a letter, "(", "[" or "."'))
        self.assertEqual(told(read_word, 2, ".."), (2, "expected the end"))
        self.assertEqual(told(read_word, 2, "a -b"), (4, "expected a number"))
        self.assertEqual(told(read_family, "2 a"), (3, 'expected ":"'))
        self.assertEqual(told(read_family, "2:. b"), (5, 'expected "," or the end'))
        self.assertEqual(told(read_family, "2: a :"), (
            6, 'expected a letter, a number, "(", "[", ",", "-" or the end'))
        self.assertEqual(told(read_action, "0 1;"), (5, "expected a number"))
        self.assertEqual(told(read_action, "0 1, 1 0"), (4, 'expected a number, ";" or the end'))
        self.assertEqual(told(next_tokens, "a]", "word"), (
            2, 'expected a letter, a number, "(", "[", "-" or the end'))

    def test_what_is_not_read_does_not_matter(self):
        # The grammar alone counts here, not ranks, letters, lengths or images.
        self.assertEqual(next_tokens("9:c30(a99)99", "family"), ["a letter", '"("', '"["', '","', "the end"])
        self.assertEqual(next_tokens("5 5 5;;"[:6], "action"), ["a number"])

    def test_the_sign_that_would_be_nested_too_deep(self):
        for text in ("(" * 8, "[" * 8, "([" * 4):
            self.assertEqual(next_tokens(text, "word"), SPELLED)
            self.assertEqual(told(next_tokens, text + "(", "word"), (9, TOO_DEEP))
            self.assertEqual(told(next_tokens, text + "(", "action"), (9, TOO_DEEP))

    def test_problems_of_tokens_come_first(self):
        for words, piece in ((NO_TOKEN, "x"), (TOO_LONG, "1234567"), (TOO_DEEP, "(" * 9)):
            for kind in KINDS:
                for text in (", ", ":: ", "1 1 1 c30 ", "9: a ", "(9 ", ""):
                    column = len(text) + (9 if words == TOO_DEEP else 1) - (words == TOO_DEEP and text == "(9 ")
                    self.assertEqual(told(READERS[kind], text + piece), (column, words))
                    self.assertEqual(told(next_tokens, text + piece, kind), (column, words))

    def test_problems_of_the_grammar_come_before_those_of_meaning(self):
        self.assertEqual(told(read_word, 1, "b a30 )"), (7, 'expected a letter, "(", "[" or the end'))
        self.assertEqual(told(read_family, "9: c30, a9,"), (12, 'expected a letter, "(", "[" or "."'))
        self.assertEqual(told(read_action, "7 7; 1; 5 5 :"), (13, 'expected a number, ";" or the end'))

    def test_kinds(self):
        found = next_tokens("a", "word")
        self.assertEqual([found.__class__, found[0].__class__], [list, str])
        found.clear()
        self.assertEqual(len(next_tokens("a", "word")), 6)


def outcome(reader, *arguments):
    """Return what a plain reader returns, or the number of the token and the words of the problem."""
    try:
        return reader(*arguments), None
    except Problem as problem:
        return None, problem


class Drawn(TestCase):
    def check(self, text, columns, result, reader, *arguments):
        """Check a reader against the result of a plain one."""
        value, problem = result
        if problem is None:
            self.assertEqual(reader(*arguments), value)
            return "right"
        self.assertEqual(told(reader, *arguments), (columns[problem.token], problem.words))
        return problem.words

    def follows(self, kind, tokens):
        """Tell if the tokens are those of a whole text."""
        told_at = coming_at(kind, tokens)
        return len(told_at) > len(tokens) and "the end" in told_at[-1]

    def test_words(self):
        seen = []
        for rank in (1, 2, 3):
            for text, columns, tokens, characters in drawn_texts("word", 300, rank):
                if self.follows("word", tokens):
                    result = outcome(plain_word, rank, characters)
                    seen.append(self.check(text, columns, result, read_word, rank, text))
        for words in ("right", NO_LETTER, LONG_WORD):
            self.assertGreater(seen.count(words), 60)

    def test_families(self):
        seen = []
        chance = Random(132)
        for text, columns, tokens, characters in drawn_texts("family", 500, 132):
            rank = str(chance.choice((1, 2, 3, 3, 3)))
            if characters and characters[0].isdigit() and chance.random() < 0.8:
                text, columns = spaced(chance, [rank] + characters[1:])
                characters = [rank] + characters[1:]
            if self.follows("family", tokens):
                seen.append(self.check(text, columns, outcome(plain_family, characters), read_family, text))
        for words in ("right", NO_LETTER, LONG_WORD, BAD_RANK):
            self.assertGreater(seen.count(words), 20)

    def test_given_words(self):
        seen, chance = [], Random(133)
        for turn in range(1200):
            pieces = [tokens for tokens in drawn_tokens("word", 6, turn) if len(tokens) < 6][:chance.randint(0, 6)]
            more = [["a", "8"], ["."], ["b"], ["(", "a", "b", ")", "4"], ["B", "3", "(", "a", "b", ")", "3"]]
            pieces += chance.sample(more, chance.randint(0, 5))
            chance.shuffle(pieces)
            characters = [str(chance.choice((2, 3, 3)))] + [":"]
            for at, piece in enumerate(pieces[:6]):
                characters += ([","] if at else []) + piece
            text, columns = spaced(chance, characters)
            seen.append(self.check(text, columns, outcome(plain_family, characters), read_family, text))
        for words in ("right", NO_LETTER, LONG_WORD, MANY_WORDS, LONG_GIVEN):
            self.assertGreater(seen.count(words), 10)

    def test_actions(self):
        seen, chance = [], Random(134)
        for _ in range(1500):
            points, characters = chance.choice((1, 1, 2, 3, 4, 5)), []
            for row in range(chance.choice((1, 2, 3, 3, 4))):
                images = [str(image) for image in range(points)]
                chance.shuffle(images)
                if chance.random() < 0.25:
                    images[chance.randrange(points)] = str(chance.choice((0, 1, 5, 60)))
                if chance.random() < 0.15:
                    images += ["1", "3"][:chance.randint(1, 2)]
                characters += ([";"] if row else []) + ["0" * (chance.random() < 0.2) + image for image in images]
            text, columns = spaced(chance, characters)
            seen.append(self.check(text, columns, outcome(plain_action, characters), read_action, text))
        for words in ("right", MANY_ROWS, AGAIN, OTHER_POINTS, TOO_GREAT):
            self.assertGreater(seen.count(words), 50)

    def test_spoilt_actions(self):
        for text, columns, tokens, characters in drawn_texts("action", 150, 135):
            if self.follows("action", tokens):
                self.check(text, columns, outcome(plain_action, characters), read_action, text)


class ReadWord(TestCase):
    def test_spelled_out(self):
        for text, word in (
                (".", ""), ("a", "a"), ("aA", "aA"), ("a3", "aaa"), ("a-3", "AAA"), ("A-2", "aa"), ("a0", ""),
                ("a-0", ""), ("a1", "a"), ("(ab)2", "abab"), ("(ab)-2", "BABA"), ("(ab)-1c", "BAc"), ("[a,b]", "abAB"),
                ("[a,b]2", "abABabAB"), ("[a,b]-1", "baBA"), ("[ab,c]", "abcBAC"), ("((a2b)2c)2", "aabaabcaabaabc"),
                ("(.)", ""), ("(.)9", ""), ("[.,a]", "aA"), ("[a,.]", "aA"), ("[.,.]", ""), ("a(.)b", "ab"),
                ("[a,[b,c]]", "abcBCAcbCB"), ("[a2,(b)-1]", "aaBAAb"), ("abBA", "abBA"), ("a02b001", "aab"),
                ("(((((((ab)))))))", "ab"), ("((((((((c))))))))-2", "CC"), ("a2(bA)-1[a,b]", "aaaBabAB"),
                ("(.)999999", ""), ("(a0)999999", ""), ("a24", "a" * 24), ("aa-0a", "aa"), ("[a0,b]", "bB")):
            self.assertEqual(read_word(3, text), word)

    def test_at_most_24_letters(self):
        for text, word in (("a24", "a" * 24), ("(ab)12", "ab" * 12), ("[a6,b6]", "a" * 6 + "b" * 6 + "A" * 6 + "B" * 6),
                           ("a23b", "a" * 23 + "b"), ("a12A12", "a" * 12 + "A" * 12), ("(a24)", "a" * 24),
                           ("(a24)0b24", "b" * 24), ("a24(b24)0", "a" * 24), ("(a24)-1", "A" * 24), ("(a12)2", "a" * 24),
                           ("a-24", "A" * 24), ("a24(.)5", "a" * 24), ("a24b0", "a" * 24),
                           ("abcabcabcabcabcabcabcabc", "abc" * 8), ("[a12,.]", "a" * 12 + "A" * 12),
                           ("[a13,.]0", ""), ("[a24,b24]0c", "c"), ("(a24)0(b24)0", "")):
            self.assertEqual(read_word(3, text), word)

    def test_25_letters(self):
        for text, column in (
                ("a25", 1), ("a-25", 1), ("(ab)13", 1), ("a24b", 4), ("b(a24)", 2), ("a 24 b", 6), ("(a25)0", 2),
                ("a24(b25)0", 5), ("(a24b)", 5), ("((a13)2)0", 2), ("a12 A13", 5), ("[a6,b7]", 1), ("[a25,.]0", 2),
                ("[.,a25]0", 4), ("([a13,.])", 2), ("([a13,.])0", 2), ("a999999", 1), ("(a5)999999", 1), ("a-999999", 1),
                ("a(b24)", 2), ("a20[a,b]2", 4), ("a(a(a(a22)))", 2), ("a(a(a(a24)))", 6), ("a(b(c23))", 2), ("a(b(c24))", 4), ("(a24)2", 1),
                ("abcabcabcabcabcabcabcabcb", 25), ("a13(.)2a12", 8), ("b1 a24", 4), ("[a13,b0]1", 1), ("b[a6,b6]", 2)):
            self.assertEqual(told(read_word, 3, text), (column, LONG_WORD))

    def test_the_words_between_brackets_are_read_by_themselves(self):
        self.assertEqual(read_word(2, "[a12,A0]"), "a" * 12 + "A" * 12)
        self.assertEqual(told(read_word, 2, "[a24,b24]"), (1, LONG_WORD))
        self.assertEqual(told(read_word, 2, "[a24,b25]"), (6, LONG_WORD))
        self.assertEqual(told(read_word, 2, "a10[a24,b24]"), (4, LONG_WORD))
        self.assertEqual(told(read_word, 2, "[a24,b24]0"), None)
        self.assertEqual(read_word(2, "a24[a24,b24]0(b24)0"), "a" * 24)
        self.assertEqual(told(read_word, 2, "(a24(b24)0a)"), (11, LONG_WORD))

    def test_letters_of_the_rank(self):
        for rank, text, column in (
                (1, "b", 1), (1, "aB", 2), (2, "c", 1), (2, "abC", 3), (1, "a(b)0", 3), (1, "[a,b]", 4), (2, "[c,a]", 2),
                (2, "a0 c0", 4), (1, " b", 2), (2, "(ab)2 (aC)", 9)):
            self.assertEqual(told(read_word, rank, text), (column, NO_LETTER))
        for rank in (1, 2, 3):
            for letter in "aAbBcC"[:2 * rank]:
                self.assertEqual(read_word(rank, letter), letter)
            for letter in "aAbBcC"[2 * rank:]:
                self.assertEqual(told(read_word, rank, letter + "2"), (1, NO_LETTER))

    def test_the_first_problem_is_reported(self):
        for text, problem in (
                ("a25c", (1, LONG_WORD)), ("c a25", (1, NO_LETTER)), ("(c)25", (2, NO_LETTER)), ("(a25)c", (2, LONG_WORD)),
                ("c25", (1, NO_LETTER)), ("(a24)2c", (1, LONG_WORD)), ("(a24c)2", (5, NO_LETTER)), ("a24bc", (4, LONG_WORD)),
                ("[a25,c]", (2, LONG_WORD)), ("[c,a25]", (2, NO_LETTER)), ("[a13,c]", (6, NO_LETTER)),
                ("[a13,b]c", (1, LONG_WORD)), ("a24c", (4, NO_LETTER)), ("a24c0", (4, NO_LETTER)), ("a30b30", (1, LONG_WORD))):
            self.assertEqual(told(read_word, 2, text), problem)

    def test_nothing_is_cancelled(self):
        self.assertEqual(read_word(2, "aAbB(aA)3[a,a]"), "aAbBaAaAaAaaAA")
        self.assertEqual(told(read_word, 1, "(aA)13"), (1, LONG_WORD))

    def test_blanks_and_needless_zeros_change_nothing_but_columns(self):
        chance = Random(135)
        for tokens in drawn_tokens("word", 150, 136):
            plain = "".join(tokens)
            more = ["0" * chance.randint(0, 6 - len(token)) + token if token.isdigit() else token for token in tokens]
            text, columns = spaced(chance, more)
            problem = told(read_word, 2, plain)
            if problem is None:
                self.assertEqual(read_word(2, text), read_word(2, plain))
            else:
                at = [column for _, _, column in scan(plain)].index(problem[0])
                self.assertEqual(told(read_word, 2, text), (columns[at], problem[1]))

    def test_kinds_and_400_characters(self):
        self.assertIs(read_word(1, "a2").__class__, str)
        self.assertEqual(read_word(1, " " * 398 + "a2"), "aa")
        self.assertEqual(read_word(1, "a0" * 200), "")
        self.assertEqual(read_word(1, "(.)0" * 100), "")


class ReadFamily(TestCase):
    def test_families(self):
        for text, family in (
                ("1:", (1, ())), ("2 :", (2, ())), (" 003 : ", (3, ())), ("2: .", (2, ("",))), ("1:a", (1, ("a",))),
                ("3:a,b,c,.", (3, ("a", "b", "c", ""))), ("2: a2, (ab)2, .", (2, ("aa", "abab", ""))),
                ("2:[a,b],[a,b]2,a8,aA", (2, ("abAB", "abABabAB", "a" * 8, "aA"))), ("1:.,.,.,.", (1, ("",) * 4)),
                ("2:(a24)0b8,[a2,b2]", (2, ("b" * 8, "aabbAABB")))):
            self.assertEqual(read_family(text), family)

    def test_the_rank(self):
        for text in ("0:", "4:", "999999:", "0: c30", "000004: a, a, a, a, a9"):
            self.assertEqual(told(read_family, text), (1, BAD_RANK))
        self.assertEqual(told(read_family, "  7 : d"), (7, NO_TOKEN))
        self.assertEqual(told(read_family, "  7 : a"), (3, BAD_RANK))
        self.assertEqual(told(read_family, "1:b"), (3, NO_LETTER))
        self.assertEqual(told(read_family, "2:b,c"), (5, NO_LETTER))
        self.assertEqual(read_family("3:b,c"), (3, ("b", "c")))

    def test_at_most_4_given_words(self):
        self.assertEqual(told(read_family, "2:a,a,a,a,a"), (11, MANY_WORDS))
        self.assertEqual(told(read_family, "2: . , . , . , . , . , ."), (20, MANY_WORDS))
        self.assertEqual(told(read_family, "2:a,a,a,a,(c30)9,a"), (11, MANY_WORDS))

    def test_given_words_of_8_and_9_letters(self):
        for word in ("a8", "(ab)4", "[a2,b2]", "aAaAaAaA", "a4(b24)0b4", "(a-4)2"):
            self.assertEqual(len(read_family("2:" + word)[1][0]), 8)
            self.assertEqual(len(read_family("2: ., " + word)[1][1]), 8)
            for more in ("a", "b1", "(a)"):
                self.assertEqual(told(read_family, "2:" + word + more), (3, LONG_GIVEN))
                self.assertEqual(told(read_family, "2: ., " + more + word), (7, LONG_GIVEN))
        self.assertEqual(told(read_family, "2: a24"), (4, LONG_GIVEN))
        self.assertEqual(told(read_family, "2: ba24"), (5, LONG_WORD))
        self.assertEqual(told(read_family, "2: a25"), (4, LONG_WORD))
        self.assertEqual(told(read_family, "2: (a9)0, (b25)0"), (12, LONG_WORD))

    def test_two_problems_in_either_sequence(self):
        pieces = {NO_LETTER: "c", LONG_WORD: "a25", LONG_GIVEN: "a9"}
        for first, one in pieces.items():
            for second, other in pieces.items():
                for ahead in ("2:", "2: ., ", "2:a,b,"):
                    self.assertEqual(told(read_family, ahead + one + "," + other), (len(ahead) + 1, first))
                text = "2:a,a,a," + one + "," + other
                self.assertEqual(told(read_family, text), (9, first))
                text = "2:a,a,a,a," + one + "," + other
                self.assertEqual(told(read_family, text), (11, MANY_WORDS))
            self.assertEqual(told(read_family, "4:" + one), (1, BAD_RANK))
            self.assertEqual(told(read_family, "2:" + one + ",a,a,a,a"), (3, first))
        self.assertEqual(told(read_family, "2:a9c"), (5, NO_LETTER))
        self.assertEqual(told(read_family, "2:a9b16"), (5, LONG_WORD))
        self.assertEqual(told(read_family, "4:a,a,a,a,a"), (1, BAD_RANK))

    def test_kinds(self):
        family = read_family("2:a,b")
        self.assertEqual([part.__class__ for part in (family, *family)], [tuple, int, tuple])


def row_of(many):
    """Return a row of images of so many points."""
    return " ".join(str(image) for image in range(many))


class ReadAction(TestCase):
    def test_actions(self):
        for text, action in (
                ("0", ((0,),)), ("1 0", ((1, 0),)), ("1 0 2; 2 1 0", ((1, 0, 2), (2, 1, 0))), ("0;0;0", ((0,),) * 3),
                (" 01  000;0 1 ", ((1, 0), (0, 1))), ("2 0 1;0 1 2;1 2 0", ((2, 0, 1), (0, 1, 2), (1, 2, 0)))):
            self.assertEqual(read_action(text), action)
        self.assertEqual(read_action(row_of(60) + ";" + row_of(60)), (tuple(range(60)),) * 2)

    def test_at_most_3_letters(self):
        self.assertEqual(told(read_action, "0;0;0;0"), (7, MANY_ROWS))
        self.assertEqual(told(read_action, "0 1;0 1;0 1; 5 5 5;9"), (14, MANY_ROWS))

    def test_at_most_60_points(self):
        self.assertEqual(told(read_action, row_of(60) + " 60"), (len(row_of(60)) + 2, MANY_POINTS))
        self.assertEqual(told(read_action, row_of(60) + " 0"), (len(row_of(60)) + 2, MANY_POINTS))
        self.assertEqual(told(read_action, "0;" + row_of(61)), (len(row_of(60)) + 4, MANY_POINTS))
        self.assertEqual(told(read_action, row_of(100)), (len(row_of(60)) + 2, MANY_POINTS))

    def test_an_image_that_stands_already(self):
        for text, column in (("0 0", 3), ("0 1 0", 5), ("1 0;1 01", 7), ("5 005", 3), ("0 1 2 2 1", 7), ("99 99 0 0", 4)):
            self.assertEqual(told(read_action, text), (column, AGAIN))
        self.assertEqual(read_action("0 1;0 1"), ((0, 1), (0, 1)))

    def test_all_letters_have_the_same_points(self):
        for text, column in (("0;0 1", 6), ("0 1;0", 6), ("0 1;1 0;0 ", 11), ("0 1;0;0 1", 6), ("0;5 7;0", 6)):
            self.assertEqual(told(read_action, text), (column, OTHER_POINTS))

    def test_an_image_that_is_too_great(self):
        for text, column in (("1", 2), ("0 2", 4), ("2 0;0 1", 4), ("0 1;0 2 ", 9), ("999999", 7), ("0;1;0", 4), ("5 7; 0 0", 4)):
            self.assertEqual(told(read_action, text), (column, TOO_GREAT))

    def test_two_problems_in_either_sequence(self):
        rows = {AGAIN: ("0 0", 3), OTHER_POINTS: ("0 1 2", 6), TOO_GREAT: ("0 2", 4), MANY_POINTS: (row_of(61), 169 + 2)}
        self.assertEqual(len(row_of(60)), 169)
        for first, (one, at) in rows.items():
            for second, (other, beside) in rows.items():
                if len(one + other) < 390:
                    self.assertEqual(told(read_action, "1 0;" + one + ";" + other), (4 + at, first))
                    self.assertEqual(told(read_action, "1 0;" + other + ";" + one), (4 + beside, second))
            if len(one) < 390:
                self.assertEqual(told(read_action, "1 0;1 0;" + one + ";0"), (8 + at, first))
                self.assertEqual(told(read_action, "1 0;1 0;1 0;" + one), (13, MANY_ROWS))
        self.assertEqual(told(read_action, "0 1;0 2 9"), (10, OTHER_POINTS))
        self.assertEqual(told(read_action, "0 1;7 0 0"), (9, AGAIN))
        self.assertEqual(told(read_action, "0 1;7"), (6, OTHER_POINTS))
        self.assertEqual(told(read_action, row_of(60)[2:] + " 1 0"), (len(row_of(60)), AGAIN))

    def test_kinds(self):
        action = read_action("1 0;0 1")
        self.assertEqual([part.__class__ for part in (action, action[0], action[0][0])], [tuple, tuple, int])


class WrongArguments(TestCase):
    def test_rank_and_text(self):
        for rank in (1, 2, 3):
            for text in (".", "a", "a0" * 200):
                check_wrong_arguments(self, read_word, ("rank", rank, NO_RANKS), ("text", text, NO_TEXTS))

    def test_text(self):
        check_wrong_arguments(self, read_family, ("text", "2:" + " " * 398, NO_TEXTS))
        check_wrong_arguments(self, read_action, ("text", "0;0" + " " * 397, NO_TEXTS))

    def test_text_and_kind(self):
        kinds = (None, 0, 1, True, b"word", "", "Word", "words", "actions", "w", "wor", " word", "word ", "text", ("word",),
                 ["word"], {"word"}, {"word": 1}, "wordfamily", "SPELLED", "spelled", 1.5, "word\n", object(), Unequal())
        for kind in KINDS:
            for text in ("", "1", " " * 400):
                if kind == "word" and text == "1":
                    continue
                check_wrong_arguments(self, next_tokens, ("text", text, NO_TEXTS), ("kind", kind, kinds))

    def test_before_problems(self):
        for text in ("x", "1234567", "(" * 9, ")", "b"):
            for wrong in (0, 4, True, None, "2"):
                with self.assertRaises(BadValue) as caught:
                    read_word(wrong, text)
                self.assertEqual(caught.exception.name, "rank")
            with self.assertRaises(BadValue) as caught:
                next_tokens(text, "sentence")
            self.assertEqual(caught.exception.name, "kind")
            for reader, arguments in ((read_word, (1,)), (read_family, ()), (read_action, ())):
                with self.assertRaises(BadValue) as caught:
                    reader(*arguments, text + "\n")
                self.assertEqual(caught.exception.name, "text")
