"""foldedways.workspace: points [2], [8] and [115] to [124]."""

from random import Random
from unittest import TestCase

from foldedways.answers import accepts_answer, answer_for
from foldedways.completing import full_action
from foldedways.derivations import derivation_for
from foldedways.errors import BadValue, NotPossible, TooLarge, WaysError
from foldedways.workspace import Workspace
from tests.plain import some_words
from tests.plain_actions import cycle, plain_returns, some_actions
from tests.plain_pairs import is_member
from tests.plain_workspace import (
    acted, plain_accepted, plain_broken, plain_state, plain_why, some_commands)
from tests.test_graphs import some_products
from tests.wrong import NEVER, NO_RANKS, NO_TUPLES, check_odd_forms, check_wrong_arguments, no_words

SWAP = ((1, 0), (0, 1))
SIXTY = tuple(range(60))
HALVES = (tuple([*range(1, 60), 0]), SIXTY)
WORDS = {rank: some_words(5, rank, 12, 119) + ["", "a", "aA", "aa", "A" * 24] for rank in (1, 2, 3)}


def space_of(rank, *commands):
    """Return a workspace in which these commands have been carried out."""
    space = Workspace(rank)
    for command in commands:
        space.act(command)
    return space


def told_by(space, words):
    """Return all that a workspace tells, of some words."""
    of_words = [(space.broken(word), space.witness(word), space.records(word)) for word in words]
    return space.family(), space.bounds(), space.journal(), of_words


def drawn_spaces(many, commands):
    """Make workspaces in which drawn commands have been carried out, as far as possible, and their journals."""
    spaces = []
    for seed in range(many):
        rank = seed % 3 + 1
        space = Workspace(rank)
        spaces.append((rank, space, acted(space, some_commands(rank, commands, seed))))
    return spaces


class Commands(TestCase):
    def check_act(self, space, rank, journal, command):
        """Check what one command does, behind a journal; return the journal behind it."""
        words = plain_why(journal, command)
        before = told_by(space, ["a", "ab"[:rank]])
        if words:
            expected = (NotPossible, words[0])
        else:
            expected = (TooLarge, "commands") if len(journal) == 20 else None
        if expected is None:
            journal = journal + (command,)
            self.assertEqual(space.act(command), len(journal))
        else:
            with self.assertRaises(WaysError) as caught:
                space.act(command)
            self.assertIs(caught.exception.__class__, expected[0])
            self.assertEqual(list(vars(caught.exception).values()), [expected[1]])
            self.assertEqual(told_by(space, ["a", "ab"[:rank]]), before)
        given, bounds = plain_state(journal)
        self.assertEqual(space.family(), (rank, given))
        self.assertEqual((space.bounds(), space.journal()), (bounds, journal))
        return journal

    def test_drawn_commands(self):
        seen = {}
        for seed in range(60):
            rank = seed % 3 + 1
            space, journal = Workspace(rank), ()
            for command in some_commands(rank, 40, seed):
                why = tuple(plain_why(journal, command)) or len(journal) == 20
                journal = self.check_act(space, rank, journal, command)
                seen[(command[0], why)] = seen.get((command[0], why), 0) + 1
        for kind, why in (("give", ("many",)), ("give", ("bound",)), ("give", ("many", "bound")), ("drop", ("missing",)),
                          ("bind", ("many",)), ("bind", ("word",)), ("bind", ("many", "word")), ("loose", ("missing",)),
                          ("give", False), ("bind", False), ("drop", False), ("loose", False), ("give", True)):
            self.assertGreater(seen.get((kind, why), 0), 3)

    def check_not_possible(self, space, command, why):
        """Check that a command is not possible, and why."""
        before = told_by(space, ["a"])
        with self.assertRaises(NotPossible) as caught:
            space.act(command)
        self.assertEqual(caught.exception.why, why)
        self.assertEqual(told_by(space, ["a"]), before)

    def test_many_comes_first(self):
        four = [("give", "aa")] * 4
        space = space_of(2, ("bind", SWAP), *four)
        self.check_not_possible(space, ("give", "a"), "many")
        self.check_not_possible(space, ("give", "aa"), "many")
        space.act(("drop", 3))
        self.check_not_possible(space, ("give", "a"), "bound")
        space = space_of(2, ("give", "a"), *[("bind", ((0,), (0,)))] * 3)
        self.check_not_possible(space, ("bind", SWAP), "many")
        self.check_not_possible(space, ("bind", ((0,), (0,))), "many")
        space.act(("loose", 0))
        self.check_not_possible(space, ("bind", SWAP), "word")

    def test_each_bound_and_each_given_word_counts(self):
        for at in range(3):
            bounds = [((0,), (0,))] * 3
            bounds[at] = SWAP
            space = space_of(2, *[("bind", action) for action in bounds])
            self.check_not_possible(space, ("give", "ab"), "bound")
            space.act(("give", "abA"))
        for at in range(4):
            given = ["aa", "aA", "b", ""]
            given[at] = "aab"
            space = space_of(2, *[("give", word) for word in given])
            self.check_not_possible(space, ("bind", ((0, 1), (1, 0))), "word")
            space.act(("bind", SWAP))

    def test_missing(self):
        space = Workspace(3)
        for number in range(4):
            for kind in ("drop", "loose"):
                self.check_not_possible(space, (kind, number), "missing")
        space = space_of(1, ("give", "aa"), ("give", "a"), ("bind", ((0,),)))
        for command in (("drop", 2), ("drop", 3), ("loose", 1), ("loose", 2), ("loose", 3)):
            self.check_not_possible(space, command, "missing")
        self.assertEqual([space.act(("drop", 1)), space.act(("loose", 0))], [4, 5])
        self.check_not_possible(space, ("drop", 1), "missing")
        self.check_not_possible(space, ("loose", 0), "missing")

    def test_numbers_follow(self):
        space = space_of(2, *[("give", word) for word in ("a", "b", "ab", "ba")], ("drop", 1), ("drop", 1))
        self.assertEqual(space.family(), (2, ("a", "ba")))
        space.act(("give", "bb"))
        self.assertEqual(space.family(), (2, ("a", "ba", "bb")))
        one, two, three = ((0,),), ((0, 1),), ((0, 1, 2),)
        space = space_of(1, ("bind", one), ("bind", two), ("bind", three), ("loose", 0), ("bind", one))
        self.assertEqual(space.bounds(), (two, three, one))
        space.act(("loose", 1))
        self.assertEqual(space.bounds(), (two, one))

    def test_given_words_are_kept_as_they_are(self):
        space = space_of(2, ("give", "aAbB"), ("give", ""), ("give", "abBa"), ("give", "abBa"))
        self.assertEqual(space.family(), (2, ("aAbB", "", "abBa", "abBa")))

    def test_the_largest_commands(self):
        space = space_of(2, *[("bind", HALVES)] * 3, *[("give", "aAbBaAbB")] * 4)
        self.assertEqual(space.broken("a" * 24), (0, 1, 2))
        self.assertEqual(space.bounds(), (HALVES,) * 3)
        space = space_of(3, *[("give", "aBcCbAcC")] * 4, *[("bind", (SIXTY,) * 3)] * 3)
        self.assertEqual(len(space.records("abc" * 8)), 7)

    def test_20_commands_and_21(self):
        for rank in (1, 2, 3):
            space = space_of(rank, *[("give", "aa"), ("drop", 0)] * 9, ("give", "aa"))
            self.assertEqual(space.act(("give", "a")), 20)
            before = told_by(space, ["a", "A"])
            for command in (("give", "a"), ("drop", 0), ("bind", ((0,),) * rank)):
                with self.assertRaises(TooLarge) as caught:
                    space.act(command)
                self.assertEqual(caught.exception.what, "commands")
            self.check_not_possible(space, ("drop", 2), "missing")
            self.check_not_possible(space, ("loose", 0), "missing")
            self.check_not_possible(space, ("bind", ((1, 0),) * rank), "word")
            self.assertEqual(told_by(space, ["a", "A"]), before)
            self.assertEqual(space.undo(), ("give", "a"))
            self.assertEqual(space.act(("drop", 0)), 20)

    def test_as_many_in_the_journal_as_returned(self):
        space = Workspace(1)
        self.assertEqual([space.act(("give", "a")), space.act(("give", "a")), space.act(("drop", 0))], [1, 2, 3])
        space.undo()
        self.assertEqual(space.act(("drop", 1)), 3)


class Undo(TestCase):
    def test_at_each_place(self):
        for rank, space, journal in drawn_spaces(45, 26):
            words = WORDS[rank][:3]
            for many in reversed(range(len(journal))):
                self.assertEqual(space.undo(), journal[many])
                self.assertEqual(told_by(space, words), told_by(space_of(rank, *journal[:many]), words))
                self.assertEqual(space.journal(), journal[:many])
            self.assertIs(space.undo(), None)
            self.assertEqual(told_by(space, words), told_by(Workspace(rank), words))

    def test_nothing_in_the_journal(self):
        space = Workspace(2)
        self.assertIs(space.undo(), None)
        self.assertIs(space.undo(), None)
        self.assertEqual((space.family(), space.bounds(), space.journal()), ((2, ()), (), ()))
        self.assertEqual(space.act(("give", "a")), 1)

    def test_behind_drop_and_loose(self):
        one, two, three = ((0,), (0,)), SWAP, ((1, 0), (1, 0))
        begun = [("give", "aa"), ("give", "bb"), ("bind", one), ("bind", two), ("bind", three)]
        space = space_of(2, *begun)
        for command in [("drop", 0), ("drop", 1), ("loose", 0), ("loose", 1), ("loose", 2)]:
            self.assertEqual(space.act(command), 6)
            self.assertEqual(space.undo(), command)
            self.assertEqual(space.family(), (2, ("aa", "bb")))
            self.assertEqual(space.bounds(), (one, two, three))
            self.assertEqual(space.journal(), tuple(begun))

    def test_between_commands(self):
        for seed in range(30):
            rank = seed % 3 + 1
            chance = Random(seed)
            space, journal = Workspace(rank), ()
            for command in some_commands(rank, 50, 1000 + seed):
                if chance.random() < 0.3:
                    self.assertEqual(space.undo(), journal[-1] if journal else None)
                    journal = journal[:-1]
                elif not plain_why(journal, command) and len(journal) < 20:
                    journal += (command,)
                    self.assertEqual(space.act(command), len(journal))
                given, bounds = plain_state(journal)
                self.assertEqual((space.family(), space.bounds()), ((rank, given), bounds))
                self.assertEqual(space.journal(), journal)


class Belonging(TestCase):
    def test_words_that_belong_return_in_every_bound(self):
        for rank, space, _ in drawn_spaces(60, 20):
            for word in some_products(space.family(), 10, 118):
                self.assertEqual(space.broken(word), ())
                self.assertEqual(space.witness(word)[0], "member")
            for word in WORDS[rank]:
                if space.broken(word):
                    self.assertFalse(is_member(space.family(), word))

    def test_what_commands_change(self):
        changed = 0
        for rank, space, journal in drawn_spaces(60, 20):
            words = some_words(8, rank, 6, 121) + some_products(space.family(), 5, 121) + list(space.family()[1])
            for many, (kind, _) in enumerate(journal):
                before, after = [(rank, plain_state(journal[:at])[0]) for at in (many, many + 1)]
                for word in words:
                    told = is_member(before, word), is_member(after, word)
                    if kind == "drop":
                        self.assertIn(told, ((True, True), (True, False), (False, False)))
                    elif kind == "give":
                        self.assertIn(told, ((True, True), (False, True), (False, False)))
                    else:
                        self.assertEqual(*told)
                    changed += told[0] != told[1]
        self.assertGreater(changed, 100)


class Witness(TestCase):
    def test_broken(self):
        for rank, space, journal in drawn_spaces(60, 20):
            for word in WORDS[rank]:
                self.assertEqual(space.broken(word), plain_broken(journal, word))

    def test_the_least_bound_or_the_told_answer(self):
        kinds = {}
        for rank, space, journal in drawn_spaces(60, 20):
            for word in WORDS[rank] + some_products(space.family(), 3, 119):
                broken, witness = plain_broken(journal, word), space.witness(word)
                if broken:
                    self.assertEqual(witness, ("bound", broken[0]))
                else:
                    self.assertEqual(witness, answer_for(space.family(), word))
                self.assertTrue(plain_accepted(rank, journal, word, witness))
                self.assertIs(space.accepts(word, witness), True)
                kinds[witness[0]] = kinds.get(witness[0], 0) + 1
        self.assertGreater(min(kinds.get(kind, 0) for kind in ("bound", "member", "none")), 50)

    def test_any_bound_is_accepted(self):
        space = space_of(2, ("bind", ((0,), (0,))), ("bind", SWAP), ("bind", ((1, 0), (1, 0))))
        self.assertEqual(space.broken("a"), (1, 2))
        self.assertEqual(space.witness("a"), ("bound", 1))
        for number in range(-4, 6):
            self.assertIs(space.accepts("a", ("bound", number)), number in (1, 2))
            self.assertIs(space.accepts("b", ("bound", number)), number == 2)
            self.assertIs(space.accepts("aa", ("bound", number)), False)
        for value in (True, False, None, "1", 1.0, (1,), [1], b"1", 10 ** 30, {1}, (1, 2), SWAP):
            self.assertIs(space.accepts("a", ("bound", value)), False)

    def test_an_answer_beside_a_bound(self):
        space = space_of(2, ("give", "aa"), ("bind", SWAP))
        self.assertEqual(space.witness("a"), ("bound", 0))
        self.assertIs(space.accepts("a", answer_for((2, ("aa",)), "a")), True)
        self.assertIs(space.accepts("a", ("none", SWAP)), True)
        self.assertIs(space.accepts("a", ("none", ((0, 1), (1, 0)))), False)
        self.assertIs(space.accepts("aa", ("member", derivation_for((2, ("aa",)), "aa"))), True)

    def test_accepted_answers_are_those_of_the_family(self):
        for rank, space, journal in drawn_spaces(40, 16):
            actions = [action for points in (1, 2, 3) for action in some_actions(3, rank, points, 119)]
            actions.append(full_action(space.family()))
            for word in WORDS[rank]:
                values = [("none", action) for action in actions] + [answer_for((rank, ("aa",)), word)]
                values += [("bound", number) for number in range(4)]
                for value in values:
                    told = plain_accepted(rank, journal, word, value)
                    self.assertIs(space.accepts(word, value), told)
                    if value[0] != "bound":
                        self.assertIs(accepts_answer(space.family(), word, value), told)
                    if told:
                        self.assertEqual(is_member(space.family(), word), value[0] == "member")

    def test_witnesses_of_other_states(self):
        for rank, space, journal in drawn_spaces(30, 16):
            for word in WORDS[rank][:4]:
                told = [space_of(rank, *journal[:many]).witness(word) for many in range(len(journal) + 1)]
                for value in told:
                    self.assertIs(space.accepts(word, value), plain_accepted(rank, journal, word, value))

    def test_the_bound_is_gone(self):
        space = space_of(1, ("bind", cycle(2)), ("bind", cycle(3)))
        self.assertEqual((space.broken("aa"), space.witness("aa")), ((1,), ("bound", 1)))
        space.act(("loose", 0))
        self.assertEqual((space.broken("aa"), space.witness("aa")), ((0,), ("bound", 0)))
        self.assertIs(space.accepts("aa", ("bound", 1)), False)
        space.act(("loose", 0))
        self.assertEqual((space.broken("aa"), space.witness("aa")[0]), ((), "none"))
        self.assertIs(space.accepts("aa", ("bound", 0)), False)

    def test_values_of_every_other_kind(self):
        space = space_of(2, ("give", "aa"), ("bind", SWAP), ("give", "bb"))
        for word, kind in (("a", "bound"), ("aab", "none"), ("aabb", "member")):
            witness = space.witness(word)
            self.assertEqual(witness[0], kind)
            check_odd_forms(self, lambda value: space.accepts(word, value), witness)
        for value in (("bound",), ("bound", 0, 0), ["bound", 0], ("Bound", 0), "bound", ("bound", "0"), (0, "bound"),
                      ("none", 0), ("member", 0), ("bound", SWAP), (None, 0), NEVER):
            self.assertIs(space.accepts("a", value), False)


class Records(TestCase):
    def test_each_command_with_the_witness_behind_it(self):
        for rank, space, journal in drawn_spaces(30, 26):
            for word in WORDS[rank][:4] + some_products(space.family(), 2, 122):
                records = space.records(word)
                self.assertEqual(tuple(command for command, _, _ in records), journal)
                for many, (command, told, witness) in enumerate(records):
                    self.assertEqual(told, word)
                    self.assertEqual(witness, space_of(rank, *journal[:many + 1]).witness(word))
                    self.assertTrue(plain_accepted(rank, journal[:many + 1], word, witness))

    def test_kinds(self):
        space = space_of(2, ("give", "aa"), ("bind", SWAP))
        self.assertEqual(Workspace(2).records("a"), ())
        records = space.records("a")
        self.assertEqual([told.__class__ for told in (records, records[0])], [tuple, tuple])
        self.assertEqual(records[1], (("bind", SWAP), "a", ("bound", 0)))
        for told in (space.family(), space.family()[1], space.bounds(), space.journal(), space.broken("a"),
                     space.witness("a"), space.journal()[0], space.undo()):
            self.assertIs(told.__class__, tuple)


class Twin(TestCase):
    def test_the_same_rank_and_journal(self):
        for rank, space, journal in drawn_spaces(30, 20):
            twin = space.twin()
            self.assertIs(twin.__class__, Workspace)
            self.assertIsNot(twin, space)
            self.assertEqual(twin.journal(), journal)
            self.assertEqual(told_by(twin, WORDS[rank][:3]), told_by(space, WORDS[rank][:3]))

    def test_what_is_done_to_one_does_not_change_the_other(self):
        for rank, space, journal in drawn_spaces(30, 12):
            words = WORDS[rank][:2]
            before, twin = told_by(space, words), space.twin()
            acted(twin, some_commands(rank, 20, 123))
            self.assertEqual(told_by(space, words), before)
            while twin.undo() is not None:
                pass
            self.assertEqual(told_by(space, words), before)
            other = space.twin()
            while space.undo() is not None:
                pass
            acted(space, some_commands(rank, 20, 124))
            self.assertEqual(told_by(other, words), before)

    def test_a_twin_of_a_twin_and_of_a_new_workspace(self):
        space = Workspace(3)
        twin = space.twin().twin()
        self.assertEqual(twin.family(), (3, ()))
        twin.act(("give", "abc"))
        self.assertEqual((space.family(), space.journal()), ((3, ()), ()))
        self.assertEqual(twin.twin().undo(), ("give", "abc"))
        self.assertEqual(twin.journal(), (("give", "abc"),))


class Copies(TestCase):
    def test_workspaces_have_nothing_in_common(self):
        one, other = Workspace(2), Workspace(2)
        one.act(("give", "aa"))
        one.act(("bind", SWAP))
        self.assertEqual((other.family(), other.bounds(), other.journal()), ((2, ()), (), ()))

    def test_lists_made_of_what_is_returned(self):
        space = space_of(2, ("give", "aa"), ("bind", SWAP))
        before = told_by(space, ["a", "aa"])
        for told in (space.family(), space.bounds(), space.journal(), space.records("a"), space.broken("a")):
            changed = list(told)
            changed.append(None)
            changed.reverse()
        self.assertEqual(told_by(space, ["a", "aa"]), before)

    def test_what_a_workspace_tells_depends_on_its_journal_alone(self):
        for rank, space, journal in drawn_spaces(30, 20):
            detour = Workspace(rank)
            for many in range(len(journal) + 1):
                acted(detour, some_commands(rank, 3, many))
                while detour.undo() is not None:
                    pass
                for command in journal[:many]:
                    detour.act(command)
            self.assertEqual(told_by(detour, WORDS[rank][:3]), told_by(space, WORDS[rank][:3]))


def no_commands(rank):
    """Return values that are no commands for the rank."""
    words = no_words(rank, 8)
    actions = (SWAP[:1] * (rank + 1), (), ((),) * rank, ((0, 0),) * rank, ((1, 2),) * rank, ((0, True),) * rank,
               [(0,)] * rank, ([0],) * rank, (tuple(range(61)),) * rank, ((0, 1),) * (rank - 1) + ((0,),) * (rank > 1),
               ((0, -1),) * rank, ("01",) * rank, (0,) * rank) + NEVER
    numbers = (4, -1, 5, 100, None, True, False, "0", 0.0, 1.5, (0,), [0], 10 ** 30, -10 ** 30, "", b"0", {0}) + NEVER[10:]
    wrong = NO_TUPLES + NEVER + ((), ("give",), ("give", "a", "a"), ["give", "a"], ("give", ("a",)), "give a",
                                 ("Give", "a"), ("gives", "a"), ("", "a"), (None, "a"), (0, "a"), ("a", "give"),
                                 (("give",), "a"), ("undo", 0), ("bound", 0), ("give", 0), ("bind", 0), ("drop", "a"),
                                 ("loose", SWAP), ("drop",), ("drop", 0, 0), {"give": "a"}, (b"give", "a"), (["give"], "a"))
    wrong += tuple(("give", word) for word in words) + tuple(("bind", action) for action in actions)
    wrong += tuple((kind, told) for kind in NEVER for told in ("a", 0))
    return wrong + tuple((kind, number) for kind in ("drop", "loose") for number in numbers)


class WrongArguments(TestCase):
    def test_rank(self):
        for rank in (1, 2, 3):
            check_wrong_arguments(self, Workspace, ("rank", rank, NO_RANKS))

    def test_command(self):
        for rank in (1, 2, 3):
            space = space_of(rank, ("give", "aa"))
            full = space_of(rank, *[("give", "aa"), ("drop", 0)] * 10)
            for wrong in no_commands(rank):
                for told in (space, full):
                    before = told.journal(), told.family(), told.bounds()
                    with self.subTest(rank=rank, command=wrong):
                        with self.assertRaises(WaysError) as caught:
                            told.act(wrong)
                        self.assertIs(caught.exception.__class__, BadValue)
                        self.assertEqual(caught.exception.name, "command")
                    self.assertEqual((told.journal(), told.family(), told.bounds()), before)

    def test_word(self):
        for rank in (1, 2, 3):
            for space in (Workspace(rank), space_of(rank, ("bind", ((1, 0),) * rank), ("give", "aa"))):
                before = space.journal(), space.family()
                for word in ("", "a" * 24, "aA" * 12):
                    for method in (space.broken, space.witness, space.records):
                        check_wrong_arguments(self, method, ("word", word, no_words(rank)))
                    for value in (None, ("bound", 0), (), ("bound", None), ("bound", 3)):
                        check_wrong_arguments(
                            self, lambda told: space.accepts(told, value), ("word", word, no_words(rank)))
                self.assertEqual((space.journal(), space.family()), before)

    def test_commands_at_their_bounds(self):
        for rank in (1, 2, 3):
            space = space_of(rank, ("give", "a" * 8), ("give", ""), ("give", "aA" * 4), ("give", "A" * 8),
                             ("bind", (SIXTY,) * rank), ("drop", 3), ("loose", 0))
            self.assertEqual(space.family(), (rank, ("a" * 8, "", "aA" * 4)))
            self.assertTrue(plain_returns((SIXTY,) * rank, "a" * 8))
