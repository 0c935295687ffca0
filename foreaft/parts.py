"""The parts of machines of any size: the states that words have, and those that are alike.

A state's row has the state for each letter; a table has a row of strings for
each left state, as that of a machine.
"""

from foreaft.walks import left_words, right_words


def trim_parts(letters, left, right, table):
    """Return left, right and table of the states that words have, in the order of their first words."""
    lefts = [states[0] for states in left_words([left], letters)]
    rights = [states[0] for states in right_words([right], letters)]
    return (_renumbered(left, lefts), _renumbered(right, rights), [[table[i][j] for j in rights] for i in lefts])


def least_parts(letters, left, right, table):
    """Return left, right and table of the classes of alike states."""
    left, right, table = trim_parts(letters, left, right, table)
    lefts = alike(left, table)
    rights = alike(right, columns(table))
    first_rights = firsts(rights)
    table = [[table[i][j] for j in first_rights] for i in firsts(lefts)]
    return (merged(left, lefts), merged(right, rights), table)


def alike(rows, written):
    """Return the class of each state, if written has what is written for it; all states have words.

    The classes are numbered in the order of their first states.
    """
    classes = numbered(["".join(strings) for strings in written])
    many = 0
    while many < max(classes) + 1:
        many = max(classes) + 1
        classes = numbered([tuple([classes[state] for state in [at] + row]) for at, row in enumerate(rows)])
    return classes


def numbered(keys):
    """Return a number for each key, the same one for equal keys, in the order in which they occur first."""
    numbers = {}
    return [numbers.setdefault(key, len(numbers)) for key in keys]


def columns(table):
    """Return a table with its rows and columns exchanged."""
    return [list(column) for column in zip(*table)]


def _renumbered(rows, states):
    """Return the rows of these states, which are numbered in their order."""
    numbers = {state: number for number, state in enumerate(states)}
    return [[numbers[after] for after in rows[state]] for state in states]


def merged(rows, classes):
    """Return the row of each class."""
    return [[classes[after] for after in rows[state]] for state in firsts(classes)]


def firsts(classes):
    """Return the first state of each class."""
    return [classes.index(number) for number in range(max(classes) + 1)]
