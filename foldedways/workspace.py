"""A workspace: given words and bounds that commands put in and take out, and a journal of these commands."""

from foldedways.actions import returns
from foldedways.answers import accepts_answer, answer_for
from foldedways.checks import check_rank, check_word, is_integer, is_tuple
from foldedways.commands import MOST_BOUNDS, MOST_COMMANDS, carried_out, is_command, why_not
from foldedways.errors import BadValue, NotPossible, TooLarge


class Workspace:
    """Given words of a rank, and bounds: actions in which every given word has to return."""

    def __init__(self, rank):
        check_rank(rank)
        self.rank = rank
        self.commands = []
        # The given words and the bounds at the beginning, and behind each command of the journal.
        self.states = [((), ())]

    def act(self, command):
        """Carry out the command, and return the number of commands in the journal."""
        if not is_command(command, self.rank):
            raise BadValue("command")
        given, actions = self.states[-1]
        why = why_not(given, actions, command)
        if why is not None:
            raise NotPossible(why)
        if len(self.commands) == MOST_COMMANDS:
            raise TooLarge("commands")
        self.states.append(carried_out(given, actions, command))
        self.commands.append(command)
        return len(self.commands)

    def undo(self):
        """Undo the last command, and return it, or None if the journal is empty."""
        if not self.commands:
            return None
        self.states.pop()
        return self.commands.pop()

    def family(self):
        """Return the family of the workspace."""
        return self.rank, self.states[-1][0]

    def bounds(self):
        """Return the tuple of the bounds."""
        return self.states[-1][1]

    def journal(self):
        """Return the tuple of the commands in the journal."""
        return tuple(self.commands)

    def broken(self, word):
        """Return the tuple of the numbers of the bounds in which the word does not return."""
        check_word(word, self.rank, "word")
        return broken_by(self.states[-1], word)

    def witness(self, word):
        """Return the witness for the word."""
        check_word(word, self.rank, "word")
        return witness_in(self.rank, self.states[-1], word)

    def accepts(self, word, value):
        """Return True if the value is an accepted witness for the word, otherwise False."""
        check_word(word, self.rank, "word")
        if is_tuple(value, 2) and isinstance(value[0], str) and value[0] == "bound":
            return is_integer(value[1], 0, MOST_BOUNDS - 1) and value[1] in self.broken(word)
        return accepts_answer(self.family(), word, value)

    def records(self, word):
        """Return the tuple of the records for the word."""
        check_word(word, self.rank, "word")
        behind = self.states[1:]
        return tuple([
            (command, word, witness_in(self.rank, state, word)) for command, state in zip(self.commands, behind)])

    def twin(self):
        """Return a workspace with the same rank and journal."""
        other = Workspace(self.rank)
        other.commands = list(self.commands)
        other.states = list(self.states)
        return other


def broken_by(state, word):
    """Return the tuple of the numbers of the bounds of a state in which the word does not return."""
    return tuple([number for number, action in enumerate(state[1]) if not returns(action, word)])


def witness_in(rank, state, word):
    """Return the witness for the word in a state of a workspace of the rank."""
    broken = broken_by(state, word)
    if broken:
        return "bound", broken[0]
    return answer_for((rank, state[0]), word)
