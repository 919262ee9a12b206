"""Values of wrong kinds, and the check that a function names the first wrong argument."""

from foldedways.errors import BadValue, WaysError

NO_INTEGERS = (None, True, False, "1", "", 1.0, b"1", (1,), [1], {1: 1}, {1}, object())
NO_STRINGS = (None, 0, 1, -1, True, False, 1.5, b"", b"a", (), ("a",), [], ["a"], {}, {"a": "a"}, {"a"}, object())
NO_TUPLES = (None, 0, 1, -1, True, False, 1.5, "", "aa", b"aa", [], {}, set(), object())
NO_RANKS = NO_INTEGERS + (0, 4, -1, -2, 5, 100, 10 ** 30)
NO_LETTERS = (
    "x", "d", "D", "1", " ", ".", "a b", "ab ", " a", "a\n", "\n", "a-", "\u00e4", "a\u0410", "\x00", "\ud800")


def no_words(rank, most=24):
    """Return values that are no words of the rank with at most so many letters."""
    beyond = {1: ("b", "B", "aab", "c", "aC"), 2: ("c", "C", "abC"), 3: ()}[rank]
    return NO_STRINGS + NO_LETTERS + beyond + ("a" * (most + 1), "aA" * (most // 2 + 1), "aA" * 500)


def no_integers(least, most):
    """Return values that are no integers within the bounds."""
    return NO_INTEGERS + (least - 1, most + 1, least - 1000, most + 1000, -10 ** 30, 10 ** 30)


def check_wrong_arguments(case, function, *parameters):
    """Check each argument wrong in turn: alone, and with all later ones wrong, too.

    A parameter is (name, good value, wrong values).
    """
    good = [right for _, right, _ in parameters]
    function(*good)
    for at, (name, _, wrong_values) in enumerate(parameters):
        for turn, wrong in enumerate(wrong_values):
            later = [values[turn % len(values)] for _, _, values in parameters[at + 1:]]
            for behind in (good[at + 1:], later):
                check_name(case, name, function, good[:at] + [wrong] + behind)


def check_name(case, name, function, arguments):
    """Check that the call raises BadValue with this name."""
    with case.subTest(function=function.__name__, arguments=arguments):
        with case.assertRaises(WaysError) as caught:
            function(*arguments)
        case.assertIs(caught.exception.__class__, BadValue)
        case.assertEqual(caught.exception.name, name)


class Unequal:
    """A value that cannot be compared: a judge has to look at its kind first."""

    __hash__ = None

    def __eq__(self, other):
        raise AssertionError("a value of another kind is compared")


# None of these can stand anywhere in a derivation, an action, a graph or an expression.
NEVER = (
    True, False, 1.0, 0.0, -1.0, "x", "a\n", "Given", b"a", b"", -2, 1000, 10 ** 30, [], {}, set(), {"a": 1}, Unequal())


def part_by_part(value, others):
    """List the versions of a value of nested tuples in which one part, or all of it, is replaced by another value."""
    versions = list(others)
    if isinstance(value, tuple):
        for at, part in enumerate(value):
            versions += [value[:at] + (other,) + value[at + 1:] for other in part_by_part(part, others)]
    return versions


def with_lists(value):
    """List the versions of a value of nested tuples in which one tuple is replaced by a list."""
    versions = []
    if isinstance(value, tuple):
        versions.append(list(value))
        for at, part in enumerate(value):
            versions += [value[:at] + (other,) + value[at + 1:] for other in with_lists(part)]
    return versions


def without_a_part(value):
    """List the versions of a value of nested tuples with one part left out, or put twice."""
    versions = []
    if isinstance(value, tuple):
        for at, part in enumerate(value):
            versions += [value[:at] + value[at + 1:], value[:at + 1] + value[at:]]
            versions += [value[:at] + (other,) + value[at + 1:] for other in without_a_part(part)]
    return versions


def check_odd_forms(case, judge, value):
    """Check that the judge returns True for the value, and False for all versions of wrong kinds."""
    case.assertIs(judge(value), True)
    for version in part_by_part(value, NEVER) + with_lists(value):
        with case.subTest(version=version):
            case.assertIs(judge(version), False)
    for other in NO_TUPLES + ((), ((),), ((), ()), ((), None), (None, None), ("member",), ("none", "member"), (value,)):
        with case.subTest(version=other):
            case.assertIs(judge(other), False)
