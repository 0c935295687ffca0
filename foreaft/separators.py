"""Words that tell the states of one side of a machine apart.

A pair of states has the smaller one first.
"""

from foreaft.parts import columns
from foreaft.walks import left_words, right_words
from foreaft.words import earlier, first_place


class Half:
    """One side of a machine: rows, what is written, and the words of the states on the other side."""

    def __init__(self, machine, side):
        self.letters = machine.reads
        self.from_end = side == "right"
        if self.from_end:
            self.rows = machine.right
            self.written = columns(machine.table)
            rests = left_words([machine.left], machine.reads)
        else:
            self.rows = machine.left
            self.written = machine.table
            rests = right_words([machine.right], machine.reads)
        self.rests = [(states[0], word) for states, word in rests.items()]

    def joined(self, letter, rest):
        """Return the word in which this side reads the letter first, and then the rest."""
        return rest + letter if self.from_end else letter + rest

    def pairs_after(self, pair):
        """Return for each letter the pair to which it leads; states that come together are a pair, too."""
        one, two = pair
        return [(min(after), max(after)) for after in zip(self.rows[one], self.rows[two])]


def all_pairs(states):
    """Return the pairs (0, 1), (0, 2), (1, 2), (0, 3) and so on."""
    return [(one, two) for two in range(states) for one in range(two)]


def pairs_from(half, one, two):
    """Return the pairs to which words lead from two states, with the pair itself."""
    start = (min(one, two), max(one, two))
    known = {start: True}
    waiting = [start]
    while waiting:
        pair = waiting.pop()
        for after in half.pairs_after(pair):
            if after not in known:
                known[after] = True
                waiting.append(after)
    return list(known)


def first_separators(half, pairs):
    """Return for each of the pairs its first separator, if it has one; what follows a pair is among them, or equal."""
    words = {}
    for pair in pairs:
        word = _first_split(half, pair)
        if word is not None:
            words[pair] = word
    afters = {pair: half.pairs_after(pair) for pair in pairs}
    while _extend(half, afters, words):
        pass
    return words


def _first_split(half, pair):
    """Return the first word that tells a pair apart by the letter that this side reads first, or None."""
    one, two = half.written[pair[0]], half.written[pair[1]]
    best = None
    for state, rest in half.rests:
        if best is not None and len(rest) >= len(best):
            break
        if one[state] != two[state]:
            letter = half.letters[first_place(one[state], two[state])]
            best = earlier(half.letters, best, half.joined(letter, rest))
    return best


def _extend(half, afters, words):
    """Put one letter more to each word of the pairs that follow, where that gives an earlier word; tell if it did."""
    changed = False
    for pair, nexts in afters.items():
        for letter, after in zip(half.letters, nexts):
            if after in words:
                word = earlier(half.letters, words.get(pair), half.joined(letter, words[after]))
                if word != words.get(pair):
                    words[pair] = word
                    changed = True
    return changed
