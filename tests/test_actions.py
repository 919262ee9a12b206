"""foldedways.actions: points [20] to [25], [27] to [29]."""

from random import Random
from unittest import TestCase

from foldedways.actions import first_words, image, is_action, least_power, orbit, restricted, returns
from tests.plain import (
    LETTERS, all_words, by_length, is_reduced, plain_inverse, plain_power, plain_reduced, some_words)
from tests.plain_actions import (
    chain, cycle, plain_first_words, plain_image, plain_orbit, plain_returns, renumbered, some_actions)
from tests.wrong import NO_TUPLES, check_wrong_arguments, no_integers, no_words

SMALL = [
    action for rank in (1, 2, 3) for points in (1, 2, 3, 4, 5) for action in some_actions(6, rank, points, points)
    if rank < 3 or points < 5]
LARGE = [action for rank in (1, 2, 3) for points in (7, 20, 60) for action in some_actions(6, rank, points, points)]
LARGE += [cycle(60), chain(60), chain(59)]
ACTIONS = SMALL + LARGE
SIXTY = tuple(range(60))

NEAR_ACTIONS = (
    (), ((),), ((), ()), ((), (0,)), ((0,), ()), (0,), (0, 1), ("0",), ("01",), (None,), ((0,), None), ((0,), 0),
    [(0,)], ([0],), ((0,), [0]), ([0], (0,)), [[0]], {(0,)}, ({0},), ({0: 0},), (range(1),), ((range(1)),),
    ((1,),), ((-1,),), ((0, 0),), ((1, 1),), ((0, 2),), ((1, 2),), ((-1, 0),), ((0, -1),), ((0, 1, 1),),
    ((True,),), ((False,),), ((0, True),), ((True, False),), ((1, False),), ((0, 1), (True, 0)),
    ((0.0,),), ((0, 1.0),), (("0",),), ((None,),), (((0,),),), ((0, (1,)),), (([0],),), (("a", "b"),),
    ((0, 1), (0,)), ((0,), (0, 1)), ((0, 1), (0, 1, 2)), ((0, 1, 2), (0, 1)), ((0, 1), (0, 2)), ((0, 1), (1, 1)),
    ((0,), (0,), (1,)), ((0,), (0,), ()), ((0,), (0,), (0, 1)),
    (tuple(range(61)),), (tuple(range(61)), tuple(range(61))), (SIXTY, tuple(range(61))), (SIXTY, SIXTY[1:]),
    (SIXTY[:59] + (60,),), (SIXTY[:59] + (58,),), (SIXTY[:59] + (10 ** 30,),), (tuple(range(1000)),),
)
NO_ACTIONS = NO_TUPLES + NEAR_ACTIONS + (((0,),) * 4, ((0, 1),) * 5, (SIXTY,) * 4)


class IsAction(TestCase):
    def test_actions_of_each_rank(self):
        for action in ACTIONS:
            self.assertIs(is_action(action, len(action)), True)
        for rank in (1, 2, 3):
            for points in (1, 2, 3, 7, 59, 60):
                same = tuple(range(points))
                self.assertIs(is_action((same,) * rank, rank), True)
                self.assertIs(is_action((same[::-1],) * rank, rank), True)
                self.assertIs(is_action((same,) * (rank - 1) + (same[1:] + (0,),), rank), True)

    def test_61_points(self):
        for rank in (1, 2, 3):
            self.assertIs(is_action((tuple(range(61)),) * rank, rank), False)

    def test_another_number_of_rows(self):
        for action in ACTIONS:
            for rank in (1, 2, 3):
                self.assertIs(is_action(action, rank), rank == len(action))
        self.assertIs(is_action(((0,),) * 4, 3), False)
        self.assertIs(is_action((), 1), False)

    def test_values_near_actions(self):
        for value in NEAR_ACTIONS + NO_TUPLES:
            for rank in (1, 2, 3):
                with self.subTest(value=value, rank=rank):
                    self.assertIs(is_action(value, rank), False)

    def test_lists_are_left_as_they_are(self):
        value = [[1, 0], [0, 1]]
        self.assertIs(is_action(value, 2), False)
        self.assertEqual(value, [[1, 0], [0, 1]])


class Image(TestCase):
    def test_letter_by_letter(self):
        for action in ACTIONS:
            words = some_words(12, len(action), 24, len(action[0])) + ["", "a" * 24, "A" * 24]
            for word in words:
                for point in sorted({0, len(action[0]) - 1, len(action[0]) // 2}):
                    self.assertEqual(image(action, point, word), plain_image(action, point, word))

    def test_a_letter_and_its_opposite(self):
        action = ((1, 2, 0),)
        self.assertEqual([image(action, point, "a") for point in range(3)], [1, 2, 0])
        self.assertEqual([image(action, point, "A") for point in range(3)], [2, 0, 1])
        rows = ((0, 1, 2), (0, 1, 2), (1, 2, 0))
        self.assertEqual([image(rows, 0, letter) for letter in "aAbBcC"], [0, 0, 0, 0, 1, 2])

    def test_from_left_to_right(self):
        action = ((1, 0, 2), (2, 1, 0))
        self.assertEqual([image(action, point, "ab") for point in range(3)], [1, 2, 0])
        self.assertEqual([image(action, point, "ba") for point in range(3)], [2, 0, 1])

    def test_joined_inverse_and_same_meaning(self):
        for action in ACTIONS:
            words = some_words(9, len(action), 12, len(action[0]) + 1)
            for first, second in zip(words, words[1:]):
                point = len(action[0]) - 1
                goal = image(action, point, first)
                self.assertEqual(image(action, point, first + second), image(action, goal, second))
                self.assertEqual(image(action, goal, plain_inverse(first)), point)
                self.assertEqual(image(action, point, plain_reduced(first)), goal)


class Returns(TestCase):
    def test_letter_by_letter(self):
        for action in SMALL:
            for word in all_words(len(action), 3):
                self.assertIs(returns(action, word), plain_returns(action, word))
        for action in LARGE:
            for word in some_words(30, len(action), 24, 8):
                self.assertIs(returns(action, word), plain_returns(action, word))

    def test_empty_words_return(self):
        for action in ACTIONS:
            for word in ("", "aA", "AaaA"):
                self.assertIs(returns(action, word), True)

    def test_what_returning_words_make_returns(self):
        chance = Random(22)
        for action in ACTIONS:
            words = [word for word in some_words(40, len(action), 6, 23) if plain_returns(action, word)]
            for _ in range(10):
                chosen = [chance.choice(words) for _ in range(4)]
                whole = "".join(chance.choice((word, plain_inverse(word))) for word in chosen)
                self.assertIs(returns(action, whole), True)


class Orbit(TestCase):
    def test_against_all_words(self):
        for action in SMALL:
            found = plain_first_words(action)
            self.assertEqual(orbit(action), tuple(found))
            self.assertEqual(first_words(action), tuple(found.values()))

    def test_points_that_are_in_no_orbit(self):
        self.assertEqual(orbit(((0, 2, 1), (0, 1, 2))), (0,))
        self.assertEqual(first_words(((0, 2, 1), (0, 1, 2))), ("",))
        self.assertEqual(orbit(((3, 0, 2, 1),)), (0, 3, 1))
        for action in ACTIONS:
            self.assertEqual(set(orbit(action)), plain_orbit(action))
            self.assertEqual(len(orbit(action)), len(plain_orbit(action)))

    def test_large_actions(self):
        for action in LARGE:
            points, words = orbit(action), first_words(action)
            self.assertEqual((points[0], words[0]), (0, ""))
            self.assertEqual([plain_image(action, 0, word) for word in words], list(points))
            self.assertEqual(list(words), sorted(words, key=by_length))
            self.assertEqual(len(words), len(points))
            self.check_no_word_comes_first(action, dict(zip(points, words)))

    def check_no_word_comes_first(self, action, found):
        """Check that words one letter longer than a first word do not come before that of their point."""
        for word in found.values():
            self.assertTrue(is_reduced(word))
            self.assertIn(word[:-1], found.values())
            for letter in LETTERS[:2 * len(action)]:
                longer = word + letter
                self.assertLessEqual(by_length(found[plain_image(action, 0, longer)]), by_length(longer))

    def test_first_words_longer_than_24_letters(self):
        words = first_words(cycle(60))
        self.assertEqual(words[:5], ("", "a", "A", "aa", "AA"))
        self.assertEqual(words[-2:], ("A" * 29, "a" * 30))
        self.assertEqual(orbit(cycle(60))[-2:], (31, 30))
        self.assertEqual(orbit(chain(60)), SIXTY)
        self.assertEqual(first_words(chain(60))[59], "ab" * 29 + "a")


class Restricted(TestCase):
    def test_points_renumbered_in_their_order(self):
        for action in ACTIONS:
            points = orbit(action)
            rows = tuple(tuple(points.index(row[point]) for point in points) for row in action)
            self.assertEqual(restricted(action), rows)
            self.assertTrue(is_action(rows, len(action)))

    def test_the_same_words_return(self):
        for action in ACTIONS:
            for word in some_words(25, len(action), 24, 24):
                self.assertEqual(returns(restricted(action), word), plain_returns(action, word))

    def test_equal_exactly_if_all_points_are_in_the_orbit_in_their_order(self):
        for action in ACTIONS:
            in_order = orbit(action) == tuple(range(len(action[0])))
            self.assertEqual(restricted(action) == action, in_order)

    def test_twice(self):
        for action in ACTIONS:
            once = restricted(action)
            self.assertEqual(restricted(once), once)
            self.assertEqual(orbit(once), tuple(range(len(once[0]))))
            self.assertEqual(first_words(once), first_words(action))

    def test_one_point(self):
        self.assertEqual(restricted(((0,),)), ((0,),))
        self.assertEqual(restricted(((0, 2, 1), (0, 1, 2), (0, 2, 1))), ((0,), (0,), (0,)))


class LeastPower(TestCase):
    def test_joined_again_and_again(self):
        for action in ACTIONS:
            for word in some_words(8, len(action), 12, 25) + ["", "aA", "a", "A"]:
                many = 1
                while not plain_returns(action, word * many):
                    many += 1
                self.assertEqual(least_power(action, word), many)

    def test_exactly_the_multiples_return(self):
        for action in SMALL:
            for word in some_words(6, len(action), 4, 26):
                least = least_power(action, word)
                for many in range(1, 13):
                    self.assertEqual(plain_returns(action, plain_power(word, many)), many % least == 0)

    def test_at_most_the_points_of_the_orbit_and_the_same_for_the_inverse(self):
        for action in ACTIONS:
            for word in some_words(10, len(action), 24, 27):
                self.assertTrue(1 <= least_power(action, word) <= len(orbit(action)))
                self.assertEqual(least_power(action, plain_inverse(word)), least_power(action, word))

    def test_sixty_points(self):
        self.assertEqual(least_power(cycle(60), "a"), 60)
        self.assertEqual(least_power(cycle(60), "a" * 24), 5)
        self.assertEqual(least_power(cycle(60), "a" * 7), 60)
        self.assertEqual(least_power(cycle(60), ""), 1)


class OtherNumbers(TestCase):
    def test_points_other_than_0_renumbered(self):
        chance = Random(27)
        for action in ACTIONS:
            numbers = list(range(1, len(action[0])))
            chance.shuffle(numbers)
            other = renumbered(action, [0] + numbers)
            self.assertEqual(restricted(other), restricted(action))
            self.assertEqual(first_words(other), first_words(action))
            self.assertEqual(orbit(other), tuple(([0] + numbers)[point] for point in orbit(action)))
            for word in some_words(20, len(action), 24, 28):
                self.assertEqual(returns(other, word), returns(action, word))
                self.assertEqual(least_power(other, word), least_power(action, word))

    def test_alike_on_their_orbits(self):
        first, second = ((1, 0, 2, 3), (0, 1, 3, 2)), ((1, 0, 3, 2), (0, 1, 2, 3))
        for word in all_words(2, 4):
            self.assertEqual(returns(first, word), returns(second, word))
        self.assertEqual(restricted(first), restricted(second))


class Kinds(TestCase):
    def test_results(self):
        for action in SMALL:
            self.assertIs(orbit(action).__class__, tuple)
            self.assertIs(first_words(action).__class__, tuple)
            self.assertIs(image(action, 0, "a").__class__, int)
            self.assertIs(least_power(action, "a").__class__, int)
            self.assertEqual(restricted(action), restricted(action))


class WrongArguments(TestCase):
    good = (((0,),), ((1, 0), (0, 1)), (SIXTY, SIXTY[::-1], SIXTY[1:] + (0,)))

    def test_action(self):
        for action in self.good:
            for function in (orbit, first_words, restricted):
                check_wrong_arguments(self, function, ("action", action, NO_ACTIONS))

    def test_action_and_word(self):
        for action in self.good:
            for word in ("a", "aA" * 12):
                for function in (returns, least_power):
                    check_wrong_arguments(
                        self, function, ("action", action, NO_ACTIONS), ("word", word, no_words(len(action))))

    def test_image(self):
        for action in self.good:
            last = len(action[0]) - 1
            for point in sorted({0, last}):
                check_wrong_arguments(
                    self, image, ("action", action, NO_ACTIONS), ("point", point, no_integers(0, last)),
                    ("word", "Aa" * 12, no_words(len(action))))
