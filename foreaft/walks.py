"""The first words that lead to states, of one machine or of several side by side.

Tables are lists of transition rows, one table for each machine; the states of
the machines for one word are a tuple with a state for each table.
"""

from foreaft.errors import MachineError


def left_words(tables, letters):
    """Return the tuples of left states that words have, each with its first word, in the order of these words."""
    return _first_words(tables, letters, False)


def right_words(tables, letters):
    """Return the tuples of right states that words have, each with its first word, in the order of these words."""
    return _first_words(tables, letters, True)


def states_after(tables, states, k):
    """Return the states to which the letter with the index k leads."""
    return tuple([rows[state][k] for rows, state in zip(tables, states)])


def reached(start, afters, most):
    """Return the states that words have, in the order in which they are found, and a row of their numbers for each.

    The states can be any keys; afters returns for a state those to which the letters lead.
    """
    numbers = {start: 0}
    states = [start]
    rows = []
    while len(rows) < len(states):
        state = states[len(rows)]
        row = []
        for after in afters(state):
            if after not in numbers:
                numbers[after] = len(states)
                states.append(after)
            row.append(numbers[after])
        rows.append(row)
        if len(states) > most:
            raise MachineError("too many states")
    return (states, rows)


def _first_words(tables, letters, from_end):
    """Return the tuples of states that are reached, each with its first word, in the order of these words."""
    start = (0,) * len(tables)
    words = {start: ""}
    level = [start]
    while level:
        fresh = []
        for states, k in _steps(level, len(letters), from_end):
            after = states_after(tables, states, k)
            if after not in words:
                words[after] = letters[k] + words[states] if from_end else words[states] + letters[k]
                fresh.append(after)
        level = fresh
    return words


def _steps(level, letters, from_end):
    """Return the steps to words with one more letter, in the order of these words."""
    if from_end:
        # The letter that is read last stands in front, so it decides the order first.
        return [(states, k) for k in range(letters) for states in level]
    return [(states, k) for states in level for k in range(letters)]
