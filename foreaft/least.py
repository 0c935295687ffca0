"""Least machines, and papers that show that a machine has no states too many."""

from foreaft.errors import MachineError
from foreaft.machines import MOST_STATES, Machine, form, left_state, output_between, right_state
from foreaft.parts import least_parts
from foreaft.separators import Half, all_pairs, first_separators, pairs_from
from foreaft.walks import left_words, right_words
from foreaft.words import is_word


def least(machine):
    """Return the least machine that is the same."""
    return least_of_parts(machine.reads, machine.writes, machine.left, machine.right, machine.table)


def least_of_parts(reads, writes, left, right, table):
    """Return the least machine of parts that can have too many states for a machine."""
    left, right, table = least_parts(reads, left, right, table)
    if len(left) > MOST_STATES or len(right) > MOST_STATES:
        raise MachineError("too many states")
    return Machine(reads, writes, left, right, table)


def is_least(machine):
    """Tell if the machine is equal to its least machine."""
    return form(machine) == form(least(machine))


def counts(machine):
    """Return how many left and how many right states the least machine has."""
    made = least(machine)
    return (len(made.left), len(made.right))


def separator(machine, side, one, two):
    """Return the first separator of two states of a side, or None if there is none."""
    half = Half(machine, side)
    words = first_separators(half, pairs_from(half, one, two))
    return words.get((min(one, two), max(one, two)))


def least_paper(machine):
    """Return a least paper for the machine, or None if it has more states than its least machine."""
    if counts(machine) != (len(machine.left), len(machine.right)):
        return None
    lefts = left_words([machine.left], machine.reads)
    rights = right_words([machine.right], machine.reads)
    return (
        [lefts[(state,)] for state in range(len(machine.left))],
        [rights[(state,)] for state in range(len(machine.right))],
        _separators(machine, "left"),
        _separators(machine, "right"),
    )


def is_least_paper(machine, paper):
    """Tell if the paper is a least paper for the machine."""
    if type(paper) is not tuple or len(paper) != 4 or not all([_are_words(machine, words) for words in paper]):
        return False
    lefts, rights, left_splits, right_splits = paper
    if [left_state(machine, word) for word in lefts] != list(range(len(machine.left))):
        return False
    if [right_state(machine, word) for word in rights] != list(range(len(machine.right))):
        return False
    left_pairs = [((one, 0), (two, 0)) for one, two in all_pairs(len(machine.left))]
    right_pairs = [((0, one), (0, two)) for one, two in all_pairs(len(machine.right))]
    return _are_apart(machine, left_pairs, left_splits) and _are_apart(machine, right_pairs, right_splits)


def _separators(machine, side):
    """Return a separator for each pair of states of a side, in the order of the pairs."""
    half = Half(machine, side)
    pairs = all_pairs(len(half.rows))
    words = first_separators(half, pairs)
    return [words[pair] for pair in pairs]


def _are_words(machine, things):
    """Tell if a value of any kind is a list of words that the machine reads."""
    return type(things) is list and all([is_word(machine.reads, thing) for thing in things])


def _are_apart(machine, pairs, words):
    """Tell if there is a word for each pair of places, a left and a right state, between which it has other outputs."""
    if len(words) != len(pairs):
        return False
    for (one, two), word in zip(pairs, words):
        if output_between(machine, one[0], one[1], word) == output_between(machine, two[0], two[1], word):
            return False
    return True
