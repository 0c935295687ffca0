"""Machines that read a word from both ends, and what they write."""

from foreaft.errors import MachineError
from foreaft.parts import columns, trim_parts
from foreaft.words import indices, is_alphabet, is_word

MOST_STATES = 40


class Machine:
    """A machine with an input alphabet, an output alphabet and states on two sides."""

    def __init__(self, reads, writes, left, right, table):
        if not _is_machine(reads, writes, left, right, table):
            raise MachineError("not a machine")
        self.reads = reads
        self.writes = writes
        self.left = [list(row) for row in left]
        self.right = [list(row) for row in right]
        self.table = [list(row) for row in table]


def _is_machine(reads, writes, left, right, table):
    """Tell if values of any kind are the parts of a machine."""
    if not is_alphabet(reads) or not is_alphabet(writes):
        return False
    if not _are_transitions(left, len(reads)) or not _are_transitions(right, len(reads)):
        return False
    if type(table) is not list or len(table) != len(left):
        return False
    return all([_is_table_row(row, len(right), len(reads), writes) for row in table])


def _are_transitions(rows, letters):
    """Tell if a value of any kind has a state for each state and each letter."""
    if type(rows) is not list or not 1 <= len(rows) <= MOST_STATES:
        return False
    return all([_is_state_row(row, letters, len(rows)) for row in rows])


def _is_state_row(row, letters, states):
    """Tell if a value of any kind is a row with a state for each letter."""
    if type(row) is not list or len(row) != letters:
        return False
    return all([type(state) is int and 0 <= state < states for state in row])


def _is_table_row(row, states, letters, writes):
    """Tell if a value of any kind is a row with a string of letters for each state."""
    if type(row) is not list or len(row) != states:
        return False
    return all([is_word(writes, written) and len(written) == letters for written in row])


def form(machine):
    """Return the five fields as a tuple, with tuples instead of lists."""
    left = tuple([tuple(row) for row in machine.left])
    right = tuple([tuple(row) for row in machine.right])
    table = tuple([tuple(row) for row in machine.table])
    return (machine.reads, machine.writes, left, right, table)


def run(machine, word):
    """Return the output of the machine for a word."""
    return output_between(machine, 0, 0, word)


def output_between(machine, left, right, word):
    """Return the output for a word between a left state and a right state."""
    read = indices(machine.reads, word)
    states = _states_between(machine, left, right, read)
    return "".join([machine.table[i][j][k] for (i, j), k in zip(states, read)])


def states_of(machine, word):
    """Return for each place the left state of what is in front and the right state of what is behind."""
    return _states_between(machine, 0, 0, indices(machine.reads, word))


def left_state(machine, word):
    """Return the left state of a word."""
    return _path(machine.left, 0, indices(machine.reads, word))[-1]


def right_state(machine, word):
    """Return the right state of a word."""
    return _path(machine.right, 0, indices(machine.reads, word)[::-1])[-1]


def _states_between(machine, left, right, read):
    """Return the pair of states at each place of the word that has these indices."""
    lefts = _path(machine.left, left, read)
    rights = _path(machine.right, right, read[::-1])
    return list(zip(lefts[:-1], rights[:-1][::-1]))


def _path(rows, start, read):
    """Return the states that are passed through, the first and the last one included."""
    states = [start]
    for k in read:
        states.append(rows[states[-1]][k])
    return states


def trim(machine):
    """Return the machine of the states that words have, in the order of their first words."""
    left, right, table = trim_parts(machine.reads, machine.left, machine.right, machine.table)
    return Machine(machine.reads, machine.writes, left, right, table)


def mirror(machine):
    """Return the machine that does the same from the other end."""
    return Machine(machine.reads, machine.writes, machine.right, machine.left, columns(machine.table))


def identity(alphabet):
    """Return the machine with one state on each side that changes nothing."""
    stay = [[0 for _ in alphabet]]
    return Machine(alphabet, alphabet, stay, stay, [[alphabet]])


def recode(machine, alphabet, letters):
    """Return the machine that writes the letter of letters at the index of each output letter."""
    table = [[_recoded(machine.writes, letters, written) for written in row] for row in machine.table]
    return Machine(machine.reads, alphabet, machine.left, machine.right, table)


def _recoded(writes, letters, written):
    """Return a string of output letters with each one replaced by its letter of letters."""
    return "".join([letters[k] for k in indices(writes, written)])
