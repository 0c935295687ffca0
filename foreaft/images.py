"""Words with a given output, and words in whose output a given piece occurs.

A place is between two letters of a word. What matters of it is the left state i
of the letters in front and the right state j of those behind: the spot i * many + j,
where many is the number of right states. Sets of spots are numbers with a bit
for each spot.
"""

from foreaft.least import least
from foreaft.machines import output_between
from foreaft.walks import left_words, right_words
from foreaft.words import earlier


def first_preimage(machine, word):
    """Return the first preimage of a word, or None if there is none."""
    found = preimages(machine, word, 1)
    return found[0] if found else None


def count_preimages(machine, word):
    """Return the number of the preimages of a word."""
    made = least(machine)
    links = links_of(made)
    many = len(made.right)
    counts = [1] * many + [0] * (many * (len(made.left) - 1))
    for letter in word:
        counts = counts_after(counts, links[letter])
    return sum(counts[::many])


def preimages(machine, word, most):
    """Return the list of the first preimages of a word, at most so many."""
    made = least(machine)
    return _first_words(made, word, 0, _open_spots(made, _sources(made), word, [0]), most)


def first_with(machine, piece):
    """Return the first word in whose output the piece occurs, or None if there is none."""
    made = least(machine)
    behinds = {}
    for states, behind in right_words([made.right], made.reads).items():
        behinds.setdefault(len(behind), []).append((states[0], behind))
    sources = _sources(made)
    best = None
    for length, ends in behinds.items():
        if best is not None and len(piece) + length > len(best):
            break
        word = _first_around(made, sources, piece, ends)
        if word is not None:
            best = earlier(made.reads, best, word)
    return best


def _first_around(made, sources, piece, ends):
    """Return the first word with the piece in its output and one of the ends, of one length, behind it, or None."""
    spots = _open_spots(made, sources, piece, [state for state, _ in ends])
    for states, front in left_words([made.left], made.reads).items():
        for middle in _first_words(made, piece, states[0], spots, 1):
            for state, behind in ends:
                if output_between(made, states[0], state, middle) == piece:
                    return front + middle + behind
    return None


def _first_words(made, word, start, spots, most):
    """Return the first words that write a word from a left state on through the spots, at most so many."""
    fronts = [(start, _open_rights(made, spots[0], start))]
    tried = [0]
    found = []
    while tried and len(found) < most:
        place = len(tried) - 1
        if place < len(word) and tried[-1] < len(made.reads):
            front = _front_after(made, fronts[-1], tried[-1], word[place], spots[place + 1])
            tried[-1] += 1
            if front[1] > 0:
                fronts.append(front)
                tried.append(0)
        else:
            fronts.pop()
            tried.pop()
            if place == len(word):
                found.append("".join([made.reads[k - 1] for k in tried]))
    return found


def _front_after(made, front, k, letter, spots):
    """Return the left state behind one more letter, and the set of the right states that can be there.

    The front is the left state and the set of the right states before the letter
    with the index k, which becomes the output letter; spots are the open ones behind it.
    """
    i, rights = front
    after = made.left[i][k]
    open_rights = _open_rights(made, spots, after)
    found = 0
    for j, row in enumerate(made.right):
        if open_rights >> j & 1 and rights >> row[k] & 1 and made.table[i][j][k] == letter:
            found |= 1 << j
    return (after, found)


def _open_rights(made, spots, i):
    """Return the set of the right states that are open beside a left state."""
    many = len(made.right)
    return spots >> (i * many) & ((1 << many) - 1)


def links_of(made):
    """Return for each output letter the steps that write it, as pairs of the spots before and behind it."""
    many = len(made.right)
    links = {letter: [] for letter in made.writes}
    for i, strings in enumerate(made.table):
        for j, written in enumerate(strings):
            for k, letter in enumerate(written):
                links[letter].append((i * many + made.right[j][k], made.left[i][k] * many + j))
    return links


def counts_after(counts, links):
    """Return for each spot how many words lead to it, one letter later."""
    after = [0] * len(counts)
    for source, target in links:
        after[target] += counts[source]
    return after


def _sources(made):
    """Return for each output letter and each spot the set of the spots from which the letter leads to it."""
    found = {}
    for letter, links in links_of(made).items():
        found[letter] = [0] * (len(made.left) * len(made.right))
        for source, target in links:
            found[letter][target] |= 1 << source
    return found


def _open_spots(made, sources, word, ends):
    """Return for each place of the output the set of the spots from which the rest of it can be written.

    The ends are the right states that are allowed behind the word.
    """
    many = len(made.right)
    spots = 0
    for i in range(len(made.left)):
        for j in ends:
            spots |= 1 << (i * many + j)
    # Long words have few different sets, so each is worked out once.
    known = {}
    found = [spots]
    for letter in word[::-1]:
        if (spots, letter) not in known:
            known[(spots, letter)] = _all_sources(sources[letter], spots)
        spots = known[(spots, letter)]
        found.append(spots)
    return found[::-1]


def _all_sources(sources, spots):
    """Return the set of the spots from which there is a step to one of the spots."""
    found = 0
    bits = f"{spots:b}"
    for spot, bit in enumerate(bits[::-1]):
        if bit == "1":
            found |= sources[spot]
    return found
