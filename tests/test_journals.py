"""foldedways.journals: points [117], [120], [122] and [124]."""

from unittest import TestCase

from foldedways.answers import answer_for
from foldedways.errors import BadValue, NotPossible, WaysError
from foldedways.journals import are_right, replayed
from foldedways.workspace import Workspace
from tests.plain_pairs import is_member
from tests.plain_workspace import plain_accepted, plain_state, plain_why, some_commands
from tests.test_graphs import some_products
from tests.test_workspace import SWAP, WORDS, drawn_spaces, no_commands, space_of, told_by
from tests.wrong import NEVER, NO_RANKS, NO_TUPLES, check_odd_forms, check_wrong_arguments, no_words

GOOD = (("give", "aa"), ("drop", 0))


class Replayed(TestCase):
    def test_the_same_as_the_workspace_that_wrote_the_journal(self):
        for rank, space, journal in drawn_spaces(45, 26):
            told = replayed(rank, journal)
            self.assertIs(told.__class__, Workspace)
            self.assertEqual((told.family(), told.bounds(), told.journal()), (space.family(), space.bounds(), journal))
            words = WORDS[rank][:4] + some_products(space.family(), 2, 117)
            self.assertEqual(told_by(told, words), told_by(space, words))

    def test_undone_commands_are_not_in_the_journal(self):
        for rank, space, journal in drawn_spaces(15, 20):
            while len(space.journal()) > len(journal) // 2:
                space.undo()
            told = replayed(rank, space.journal())
            self.assertEqual(told_by(told, WORDS[rank][:3]), told_by(space, WORDS[rank][:3]))

    def test_a_new_workspace_each_time(self):
        journal = (("give", "aa"), ("bind", SWAP))
        one, other = replayed(2, journal), replayed(2, journal)
        one.undo()
        one.act(("give", "bb"))
        self.assertEqual((other.family(), other.journal()), ((2, ("aa",)), journal))
        self.assertEqual(replayed(2, journal).family(), (2, ("aa",)))
        self.assertEqual(replayed(3, ()).journal(), ())

    def test_commands_that_are_not_possible(self):
        seen = {}
        for seed in range(150):
            rank = seed % 3 + 1
            journal = tuple(some_commands(rank, 2 + seed % 12, seed))
            why, before = None, ()
            for command in journal:
                words = plain_why(before, command)
                if words:
                    why = words[0]
                    break
                before += (command,)
            if why is None:
                self.assertEqual(replayed(rank, journal).journal(), journal)
            else:
                with self.assertRaises(NotPossible) as caught:
                    replayed(rank, journal)
                self.assertEqual(caught.exception.why, why)
            seen[why] = seen.get(why, 0) + 1
        self.assertGreater(min(seen.get(why, 0) for why in (None, "bound", "word", "missing")), 3)

    def test_each_reason_at_its_place(self):
        full = (("give", "aa"),) * 4
        bounds = (("bind", ((0,), (0,))),) * 3
        for journal, why in (
                (full + (("give", "bb"),), "many"), (bounds + (("bind", SWAP),), "many"),
                ((("bind", SWAP), ("give", "a")), "bound"), ((("give", "a"), ("bind", SWAP)), "word"),
                ((("drop", 0),), "missing"), ((("give", "a"), ("drop", 1)), "missing"), ((("loose", 0),), "missing"),
                ((("drop", 0), ("bind", SWAP), ("give", "a")), "missing"),
                ((("bind", SWAP), ("give", "a"), ("drop", 3)), "bound")):
            with self.assertRaises(NotPossible) as caught:
                replayed(2, journal)
            self.assertEqual(caught.exception.why, why)

    def test_20_commands_and_21(self):
        for rank in (1, 2, 3):
            space = replayed(rank, GOOD * 10)
            self.assertEqual((len(space.journal()), space.family()), (20, (rank, ())))
            for journal in (GOOD * 10 + GOOD[:1], GOOD * 11, (("drop", 0),) * 21):
                with self.assertRaises(BadValue) as caught:
                    replayed(rank, journal)
                self.assertEqual(caught.exception.name, "journal")

    def test_wrong_arguments(self):
        for rank in (1, 2, 3):
            wrong = NO_TUPLES + (list(GOOD), GOOD[0], ("give", "aa"), (GOOD,), GOOD * 11, "give", {GOOD[0]: 1})
            wrong += tuple((command,) for command in no_commands(rank))
            wrong += tuple(GOOD + (command,) for command in no_commands(rank)[::5])
            for journal in ((), GOOD * 10, (("give", "a" * 8), ("bind", ((0,),) * rank))):
                check_wrong_arguments(self, replayed, ("rank", rank, NO_RANKS), ("journal", journal, wrong))

    def test_what_is_no_journal_comes_before_what_is_not_possible(self):
        for wrong in (("give", "c"), ("drop", 4), ("bind", ((0,),)), None, ("undo",)):
            for journal in ((("drop", 0), wrong), (wrong, ("drop", 0)), (("loose", 3),) * 19 + (wrong,)):
                with self.assertRaises(WaysError) as caught:
                    replayed(2, journal)
                self.assertIs(caught.exception.__class__, BadValue)
                self.assertEqual(caught.exception.name, "journal")


def plain_are_right(rank, records):
    """Judge records of a command, a word and what has the form of a witness, one after another."""
    journal = ()
    for command, word, witness in records:
        if plain_why(journal, command):
            return False
        journal += (command,)
        if not plain_accepted(rank, journal, word, witness):
            return False
    return len(journal) <= 20


def some_records(rank, journal, words):
    """Return records of a journal, each for another word."""
    told = []
    for many, command in enumerate(journal):
        word = words[many % len(words)]
        told.append((command, word, space_of(rank, *journal[:many + 1]).witness(word)))
    return tuple(told)


class AreRight(TestCase):
    def test_records_of_workspaces(self):
        for rank, space, journal in drawn_spaces(30, 26):
            for word in WORDS[rank][:4] + some_products(space.family(), 2, 120):
                self.assertIs(are_right(rank, space.records(word)), True)
            self.assertIs(are_right(rank, some_records(rank, journal, WORDS[rank])), True)

    def test_each_word_is_shown_to_belong_or_not(self):
        for rank, _, journal in drawn_spaces(30, 16):
            records = some_records(rank, journal, WORDS[rank])
            for many, (_, word, (kind, _)) in enumerate(records):
                family = rank, plain_state(journal[:many + 1])[0]
                self.assertEqual(is_member(family, word), kind == "member")

    def test_changed_left_out_put_in_or_in_another_sequence(self):
        right = wrong = 0
        for rank, space, journal in drawn_spaces(24, 12):
            records = some_records(rank, journal, WORDS[rank])
            versions = []
            for at, (command, word, witness) in enumerate(records):
                others = [(command, other, witness) for other in WORDS[rank][::3]]
                others += [(other, word, witness) for other in some_commands(rank, 3, at)]
                others += [(command, word, told) for _, _, told in records[:3]]
                others += [(command, word, ("bound", number)) for number in range(3)]
                others.append((command, word, answer_for((rank, ("aa",)), word)))
                versions += [records[:at] + (other,) + records[at + 1:] for other in others]
                versions += [records[:at] + records[at + 1:], records[:at + 1] + records[at:], records[:at]]
                versions.append(records[:at][::-1] + records[at:])
                versions.append(records[at:] + records[:at])
            for version in versions:
                told = plain_are_right(rank, version)
                self.assertIs(are_right(rank, version), told)
                right += told
                wrong += not told
        self.assertGreater(right, 100)
        self.assertGreater(wrong, 400)

    def test_an_empty_tuple_20_and_21_records(self):
        for rank in (1, 2, 3):
            self.assertIs(are_right(rank, ()), True)
            records = replayed(rank, GOOD * 10).records("a")
            self.assertEqual(len(records), 20)
            self.assertIs(are_right(rank, records), True)
            self.assertIs(are_right(rank, records + records[:1]), False)
            self.assertIs(are_right(rank, records + records), False)
            self.assertIs(are_right(rank, records[:19]), True)

    def test_of_another_rank(self):
        for rank, space, journal in drawn_spaces(12, 12):
            for other in (1, 2, 3):
                if other != rank and any(kind == "bind" for kind, _ in journal):
                    self.assertIs(are_right(other, space.records("a")), False)
        records = space_of(1, ("give", "aa")).records("aaaa")
        for rank in (1, 2, 3):
            self.assertIs(are_right(rank, records), True)
        self.assertIs(are_right(1, ((("give", "aa"), "b", ("none", ((1, 0),))),)), False)
        self.assertIs(are_right(1, ((("give", "b"), "a", ("none", ((1, 0),))),)), False)

    def test_a_command_that_is_not_possible(self):
        none = ("none", ((1, 0), (0, 1)))
        self.assertIs(are_right(2, ((("give", "aa"), "a", none), (("bind", SWAP), "a", ("bound", 0)))), True)
        for command in (("drop", 1), ("loose", 0), ("bind", ((1, 2, 0), (0, 1, 2)))):
            self.assertIs(are_right(2, ((("give", "aa"), "a", none), (command, "a", none))), False)
        many = ((("give", "aa"), "a", none),) * 4
        self.assertIs(are_right(2, many), True)
        self.assertIs(are_right(2, many + many[:1]), False)
        bound = ((("bind", SWAP), "a", ("bound", 0)),)
        self.assertIs(are_right(2, bound * 3), True)
        self.assertIs(are_right(2, bound * 4), False)
        self.assertIs(are_right(2, bound + ((("give", "a"), "a", ("bound", 0)),)), False)

    def test_the_state_behind_the_command(self):
        member = ("member", (("aa", (("given", 0, 1),)),))
        none = ("none", ((1, 2, 0),))
        self.assertIs(are_right(1, ((("give", "aa"), "aa", member), (("drop", 0), "aa", none))), True)
        self.assertIs(are_right(1, ((("give", "aa"), "aa", none),)), False)
        self.assertIs(are_right(1, ((("give", "aa"), "aa", member), (("drop", 0), "aa", member))), False)
        self.assertIs(are_right(1, ((("bind", ((1, 0),)), "a", ("bound", 0)), (("loose", 0), "a", ("bound", 0)))), False)

    def test_values_of_every_other_kind(self):
        records = ((("give", "aa"), "aa", ("member", (("aa", (("given", 0, 1),)),))),
                   (("bind", SWAP), "a", ("bound", 0)), (("drop", 0), "ab", ("bound", 0)),
                   (("loose", 0), "aa", ("none", ((1, 2, 0), (0, 1, 2)))))
        for told in (records[:2], records):
            # No records at all are right, too.
            check_odd_forms(
                self, lambda value: not (isinstance(value, tuple) and len(value) == 0) and are_right(2, value), told)
        for wrong in no_words(2) + NEVER:
            self.assertIs(are_right(2, ((("give", "aa"), wrong, records[0][2]),)), False)
        for wrong in no_commands(2):
            self.assertIs(are_right(2, ((wrong, "aa", records[0][2]),)), False)
        for wrong in ((), records[0][:2], records[0] + (None,), list(records[0]), "abc", (records[0],), None, 3):
            self.assertIs(are_right(2, (wrong,)), False)
            self.assertIs(are_right(2, records + (wrong,)), False)
        for wrong in NO_TUPLES:
            self.assertIs(are_right(2, wrong), False)

    def test_wrong_rank(self):
        for value in ((), None, [], ((("give", "aa"), "aa", ("bound", 0)),)):
            for rank in (1, 2, 3):
                check_wrong_arguments(self, lambda told: are_right(told, value), ("rank", rank, NO_RANKS))
