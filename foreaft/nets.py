"""Automata that read the words of patterns.

A net has a state 0, in which it begins, and a state for each place of the pattern
at which a letter is read. It is in several states at once: a set of states, which
is a number with a bit for each of them.
"""

from foreaft.parts import alike, firsts, merged
from foreaft.syntax import SIGNS
from foreaft.walks import reached


class Net:
    """For each state the set of those that follow it, for each letter the set of those that read it, and the ends.

    The set of those that are always entered again is empty, or that of state 0 alone:
    then words of the pattern can begin behind any letter.
    """

    def __init__(self, follows, reading, ends, always):
        self.follows = follows
        self.reading = reading
        self.ends = ends
        self.always = always


class Places:
    """The places of a pattern at which letters are read: what is read, and the set of places that follow."""

    def __init__(self, alphabet):
        self.alphabet = alphabet
        self.reads = [""]
        self.follows = [0]

    def placed(self, letter):
        """Return the part for a new place that reads a letter, or any one."""
        place = 1 << len(self.reads)
        self.reads.append(self.alphabet if letter == "." else letter)
        self.follows.append(0)
        return (False, place, place)

    def link(self, lasts, starts):
        """Let each of the starts follow each of the lasts."""
        self.follows = [
            after | starts if lasts >> place & 1 else after for place, after in enumerate(self.follows)
        ]


def net_of(alphabet, text):
    """Return the net that reads the words of a pattern, from the beginning."""
    places = Places(alphabet)
    (empty, starts, lasts), _ = _pattern(places, text, 0)
    places.follows[0] = starts
    reading = []
    for letter in alphabet:
        reading.append(sum([1 << place for place, read in enumerate(places.reads) if letter in read]))
    return Net(places.follows, reading, lasts | int(empty), 0)


# Each of the next four functions reads a part of a pattern from a place of the text on. It returns
# the part and the place behind it; a part is whether it describes the empty word, and the sets
# of places at which its words can begin and can end.


def _pattern(places, text, at):
    """Read a pattern."""
    (empty, starts, lasts), at = _branch(places, text, at)
    while text[at:at + 1] == "|":
        branch, at = _branch(places, text, at + 1)
        empty, starts, lasts = (empty or branch[0], starts | branch[1], lasts | branch[2])
    return ((empty, starts, lasts), at)


def _branch(places, text, at):
    """Read a branch."""
    empty, starts, lasts = (True, 0, 0)
    while at < len(text) and text[at] not in "|)":
        part, at = _part(places, text, at)
        places.link(lasts, part[1])
        starts |= part[1] if empty else 0
        lasts = part[2] | (lasts if part[0] else 0)
        empty = empty and part[0]
    return ((empty, starts, lasts), at)


def _part(places, text, at):
    """Read a base and the signs behind it."""
    (empty, starts, lasts), at = _base(places, text, at)
    while at < len(text) and text[at] in SIGNS:
        if text[at] != "?":
            places.link(lasts, starts)
        empty = empty or text[at] != "+"
        at += 1
    return ((empty, starts, lasts), at)


def _base(places, text, at):
    """Read a letter, or a pattern in parentheses."""
    if text[at] != "(":
        return (places.placed(text[at]), at + 1)
    inner, at = _pattern(places, text, at + 1)
    return (inner, at + 1)


def turned(net):
    """Return the net that reads the words from the end."""
    follows = [net.ends >> 1 << 1]
    for state in range(1, len(net.follows)):
        befores = [before for before, after in enumerate(net.follows) if before > 0 and after >> state & 1]
        follows.append(sum([1 << before for before in befores]))
    return Net(follows, net.reading, net.follows[0] | net.ends & 1, 0)


def anywhere(net):
    """Return the net that reads all words that end with a word of the net."""
    return Net(net.follows, net.reading, net.ends, 1)


def fits_along(net, read):
    """Return for 0, 1 and more of the letters with these indices if the net reads so many of them as a word."""
    # Long words have few different sets, so each is worked out once.
    known = {}
    states = 1
    fits = [states & net.ends > 0]
    for k in read:
        if states not in known:
            known[states] = _sets_after(net, states)
        states = known[states][k]
        fits.append(states & net.ends > 0)
    return fits


def deterministic(net):
    """Return the row of states for each state of an automaton that does the same, and if words end in it."""
    sets, rows = reached(1, lambda states: _sets_after(net, states), 1 << len(net.follows))
    return (rows, [states & net.ends > 0 for states in sets])


def least_deterministic(net):
    """Return rows and ends of the automaton with the fewest states."""
    rows, fits = deterministic(net)
    classes = alike(rows, [["1" if fit else "0"] for fit in fits])
    return (merged(rows, classes), [fits[state] for state in firsts(classes)])


def _sets_after(net, states):
    """Return for each letter the set of states that it leads to from a set."""
    found = 0
    for state, after in enumerate(net.follows):
        if states >> state & 1:
            found |= after
    return [found & reading | net.always for reading in net.reading]
