"""Journals that are carried out again, and records that show what words belonged."""

from foldedways.checks import check_rank, is_tuple
from foldedways.commands import MOST_COMMANDS, is_command, why_not
from foldedways.errors import BadValue
from foldedways.words import is_word
from foldedways.workspace import Workspace


def replayed(rank, journal):
    """Return the workspace of the rank in which the commands of the journal have been carried out."""
    check_rank(rank)
    if not isinstance(journal, tuple) or len(journal) > MOST_COMMANDS:
        raise BadValue("journal")
    if not all([is_command(command, rank) for command in journal]):
        raise BadValue("journal")
    space = Workspace(rank)
    for command in journal:
        space.act(command)
    return space


def are_right(rank, records):
    """Return True if the records are right for the rank, otherwise False."""
    check_rank(rank)
    if not isinstance(records, tuple) or len(records) > MOST_COMMANDS:
        return False
    space = Workspace(rank)
    for record in records:
        if not is_record(rank, record) or not holds(space, record):
            return False
    return True


def is_record(rank, value):
    """Return True if the value is a command, a word of the rank, and what may be a witness, otherwise False."""
    return is_tuple(value, 3) and is_command(value[0], rank) and is_word(value[1], rank)


def holds(space, record):
    """Carry out the command of the record if it is possible; return True if the record holds, otherwise False."""
    command, word, witness = record
    if why_not(space.family()[1], space.bounds(), command) is not None:
        return False
    space.act(command)
    return space.accepts(word, witness)
