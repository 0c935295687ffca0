"""Patterns: what they describe, and how many words have an output that one describes."""

from foreaft.errors import PatternError
from foreaft.images import counts_after, links_of
from foreaft.least import least
from foreaft.machines import mirror, recode
from foreaft.nets import deterministic, fits_along, least_deterministic, net_of, turned
from foreaft.parts import columns
from foreaft.syntax import pattern_end
from foreaft.walks import left_words
from foreaft.words import indices


class Pattern:
    """A string that describes words over an alphabet."""

    def __init__(self, alphabet, text):
        place, reason = pattern_end(alphabet, text, 0, "")
        if reason is not None:
            raise PatternError(place, reason)
        self.alphabet = alphabet
        self.text = text
        self.net = net_of(alphabet, text)


def matches(pattern, word):
    """Tell if the pattern describes the word."""
    return fits_along(pattern.net, indices(pattern.alphabet, word))[-1]


def first_match(pattern):
    """Return the first word that the pattern describes, or None if there is none."""
    rows, fits = deterministic(pattern.net)
    for states, word in left_words([rows], pattern.alphabet).items():
        if fits[states[0]]:
            return word
    return None


def count_outputs(machine, pattern, length):
    """Return the number of words of a length whose output the pattern describes."""
    rows, fits = least_deterministic(pattern.net)
    turned_rows, turned_fits = least_deterministic(turned(pattern.net))
    made = _with_fewer_letters(machine, rows)
    # Both automata give the same number, but one of them can have many times as many states.
    if len(turned_rows) < len(rows):
        return _number_of_words(mirror(made), turned_rows, turned_fits, length)
    return _number_of_words(made, rows, fits, length)


def _with_fewer_letters(machine, rows):
    """Return the least machine that writes one letter for all those that lead alike, because it can be smaller."""
    leads = columns(rows)
    letters = "".join([machine.writes[leads.index(lead)] for lead in leads])
    return least(recode(machine, machine.writes, letters))


def _number_of_words(made, rows, fits, length):
    """Return the number of words of a length whose output leads to a state that fits."""
    links = links_of(made)
    steps = [(lead, links[letter]) for lead, letter in zip(columns(rows), made.writes) if links[letter]]
    dead = [_is_dead(state, row, fit) for state, (row, fit) in enumerate(zip(rows, fits))]
    many = len(made.right)
    counts = {0: [1] * many + [0] * (many * (len(made.left) - 1))}
    for _ in range(length):
        counts = _counts_later(counts, steps, dead)
    return sum([sum(spots[::many]) for state, spots in counts.items() if fits[state]])


def _is_dead(state, row, fit):
    """Tell if no word ends in the state or behind it."""
    return not fit and all([after == state for after in row])


def _counts_later(counts, steps, dead):
    """Return for each state of the automaton how many words lead to it and to each spot, one letter later."""
    later = {}
    for lead, links in steps:
        for state, spots in _gathered(counts, lead).items():
            if not dead[state]:
                after = counts_after(spots, links)
                later[state] = _added(later[state], after) if state in later else after
    return later


def _gathered(counts, lead):
    """Return for each state to which a letter leads the sum of the counts of those from which it leads there."""
    # Adding first saves work: the links are then gone through once for all of them.
    found = {}
    for state, spots in counts.items():
        after = lead[state]
        found[after] = _added(found[after], spots) if after in found else spots
    return found


def _added(ones, others):
    """Return the sums of the numbers at each index."""
    return [one + other for one, other in zip(ones, others)]
