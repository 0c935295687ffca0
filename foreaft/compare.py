"""Comparing two machines for all words."""

from foreaft.errors import MachineError
from foreaft.walks import left_words, right_words
from foreaft.words import earlier, first_place


def is_same(one, two):
    """Tell if the machines have equal outputs for every word."""
    return same_paper(one, two) is not None


def difference(one, two):
    """Return the first word for which the outputs differ, or None if there is none."""
    _check_inputs(one, two)
    letters = one.reads
    lefts = left_words([one.left, two.left], letters)
    rights = right_words([one.right, two.right], letters)
    best = None
    for (i, m), front in lefts.items():
        if best is not None and len(front) >= len(best):
            break
        rest = _first_split(one.table[i], two.table[m], rights, letters)
        if rest is not None:
            best = earlier(letters, best, front + rest)
    return best


def same_paper(one, two):
    """Return a right same paper for the machines, or None if they are not the same."""
    _check_inputs(one, two)
    lefts = list(left_words([one.left, two.left], one.reads))
    rights = list(right_words([one.right, two.right], one.reads))
    if not _write_alike(one, two, lefts, rights):
        return None
    return (lefts, rights)


def is_same_paper(one, two, paper):
    """Tell if the paper is a right same paper for the machines."""
    if one.reads != two.reads or type(paper) is not tuple or len(paper) != 2:
        return False
    lefts, rights = paper
    if not _is_closed(lefts, one.left, two.left) or not _is_closed(rights, one.right, two.right):
        return False
    return _write_alike(one, two, lefts, rights)


def _check_inputs(one, two):
    """Refuse machines that do not read the same words."""
    if one.reads != two.reads:
        raise MachineError("different input alphabets")


def _write_alike(one, two, lefts, rights):
    """Tell if both machines write the same letters between each left and each right pair."""
    # One long string for a left state, because these are compared for each pair.
    ones = ["".join([row[j] for j, _ in rights]) for row in one.table]
    twos = ["".join([row[n] for _, n in rights]) for row in two.table]
    return all([ones[i] == twos[m] for i, m in lefts])


def _first_split(row, other, rights, letters):
    """Return the first word, a letter and what is behind it, for whose letter two rows differ, or None."""
    best = None
    for (j, n), behind in rights.items():
        if best is not None and len(behind) >= len(best):
            break
        if row[j] != other[n]:
            best = earlier(letters, best, letters[first_place(row[j], other[n])] + behind)
    return best


def _is_closed(pairs, rows, others):
    """Tell if a list has the pair of first states, and with a pair all those that follow it."""
    if type(pairs) is not list or not all([_is_pair(pair, rows, others) for pair in pairs]):
        return False
    known = set(pairs)
    if (0, 0) not in known:
        return False
    for i, m in pairs:
        for after in zip(rows[i], others[m]):
            if after not in known:
                return False
    return True


def _is_pair(pair, rows, others):
    """Tell if a value of any kind is a pair of states that exist."""
    if type(pair) is not tuple or len(pair) != 2:
        return False
    i, m = pair
    if type(i) is not int or type(m) is not int:
        return False
    return 0 <= i < len(rows) and 0 <= m < len(others)
