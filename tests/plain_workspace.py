"""What the document says of workspaces, done as plainly as it is told, for the tests to compare with."""

from random import Random

from foldedways.errors import WaysError
from tests.plain import some_words
from tests.plain_actions import plain_returns, some_actions
from tests.plain_completing import plain_completed, plain_is_against
from tests.plain_derivations import plain_accepts
from tests.plain_pairs import graph_told


def plain_state(journal):
    """Return the given words and the bounds behind the commands of a journal."""
    given, bounds = [], []
    for kind, told in journal:
        if kind == "give":
            given.append(told)
        elif kind == "bind":
            bounds.append(told)
        elif kind == "drop":
            del given[told]
        else:
            del bounds[told]
    return tuple(given), tuple(bounds)


def plain_why(journal, command):
    """Return the words that tell why a command is not possible behind a journal, in the order of point 116."""
    given, bounds = plain_state(journal)
    kind, told = command
    words = []
    if kind == "give":
        words += ["many"] * (len(given) >= 4)
        words += ["bound"] * any(not plain_returns(action, told) for action in bounds)
    elif kind == "bind":
        words += ["many"] * (len(bounds) >= 3)
        words += ["word"] * any(not plain_returns(told, word) for word in given)
    else:
        words += ["missing"] * (told >= len(given if kind == "drop" else bounds))
    return words


def plain_broken(journal, word):
    """Return the numbers of the bounds in which the word does not return."""
    bounds = plain_state(journal)[1]
    return tuple(number for number in range(len(bounds)) if not plain_returns(bounds[number], word))


def plain_accepted(rank, journal, word, witness):
    """Judge a witness of one of the three kinds that has the form of one."""
    kind, evidence = witness
    family = rank, plain_state(journal)[0]
    if kind == "bound":
        return evidence in plain_broken(journal, word)
    if kind == "member":
        return plain_accepts(family, word, evidence)
    return plain_is_against(family, [word], evidence)


def some_commands(rank, many, seed):
    """Make commands, the same ones for the same seed, most of them such as can be possible one behind the other."""
    chance = Random(seed)
    commands, given = [], []
    for _ in range(many):
        kind = chance.choice(("give", "give", "give", "bind", "bind", "bind", "drop", "loose"))
        if kind == "give":
            told = chance.choice(some_words(2, rank, 8, chance.random()) + ["aa", "", "aA", "aaaa"])
            given.append(told)
        elif kind == "bind":
            drawn = some_actions(2, rank, chance.randint(1, 4), chance.random())
            kept = tuple(given[-chance.randint(1, 4):]) if given else ()
            drawn += [plain_completed(rank, graph_told((rank, kept))), ((1, 0),) * rank]
            told = chance.choice(drawn)
        else:
            told = chance.choice((0, 0, 0, 1, 1, 2, 3))
        commands.append((kind, told))
    return commands


def acted(space, commands):
    """Carry out what is possible of some commands; return the journal."""
    for command in commands:
        try:
            space.act(command)
        except WaysError:
            pass
    return space.journal()
