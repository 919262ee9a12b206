"""How many members a graph has, and which ones. Nothing is checked here.

A state is a vertex and the letter by which it was entered. A table of endings has,
for each state, the number of the endings of one length: what can stand behind the
letter in a reduced word, and leads from the vertex to the vertex 0.
"""

from foldedways.moves import moves_along
from foldedways.words import letters_behind

START = (0, "")


def states_behind(rank, graph):
    """Return the states of the graph, each with the list of the states behind it, in the order of their letters."""
    moves = moves_along(graph[1])
    states = [START] + [(vertex, letter) for (_, letter), vertex in moves.items()]
    behind = {}
    for vertex, entered in states:
        letters = [letter for letter in letters_behind(rank, entered) if (vertex, letter) in moves]
        behind[(vertex, entered)] = [(moves[(vertex, letter)], letter) for letter in letters]
    return behind


def no_letters(behind):
    """Return the table of the endings without letters."""
    return {(vertex, entered): 1 if vertex == 0 else 0 for vertex, entered in behind}


def one_letter_more(behind, table):
    """Return the table of the endings that are one letter longer."""
    return {state: sum([table[after] for after in behind[state]]) for state in behind}


def tables_up_to(behind, length):
    """Return the list of the tables for the lengths up to this one."""
    tables = [no_letters(behind)]
    for _ in range(length):
        tables.append(one_letter_more(behind, tables[-1]))
    return tables


def tables_for(behind, many):
    """Return the list of the tables for as many lengths as have so many members, or all members if there is one."""
    tables = [no_letters(behind)]
    counted = 1
    # Where an edge is, there are infinitely many members.
    while counted < many and len(behind) > 1:
        tables.append(one_letter_more(behind, tables[-1]))
        counted += tables[-1][START]
    return tables


def members_in(tables):
    """Return the number of the members of these lengths."""
    return sum([table[START] for table in tables])


def member_with(behind, tables, index):
    """Return the member with the index, which is one of these lengths."""
    length = 0
    rest = index
    while rest >= tables[length][START]:
        rest -= tables[length][START]
        length += 1
    word = ""
    state = START
    for table in tables[:length][::-1]:
        state, rest = choice(behind[state], table, rest)
        word += state[1]
    return word


def choice(states, table, index):
    """Return the state in which the ending with the index goes on, and its index among those that go on so."""
    at = 0
    rest = index
    while rest >= table[states[at]]:
        rest -= table[states[at]]
        at += 1
    return states[at], rest


def index_in(behind, tables, member):
    """Return the index of a member, which has the last one of these lengths."""
    index = members_in(tables[:-1])
    state = START
    for letter, table in zip(member, tables[:-1][::-1]):
        letters = [entered for _, entered in behind[state]]
        at = letters.index(letter)
        index += sum([table[before] for before in behind[state][:at]])
        state = behind[state][at]
    return index
