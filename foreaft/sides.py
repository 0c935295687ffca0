"""From which side a machine can be computed, and how far it must look ahead."""

from foreaft.least import counts, separator
from foreaft.machines import mirror, output_between, right_state, trim
from foreaft.parts import alike, columns, numbered
from foreaft.walks import right_words
from foreaft.words import is_word


def is_one_sided(machine, side):
    """Tell if the machine is one-sided from this side."""
    lefts, rights = counts(machine)
    return rights == 1 if side == "left" else lefts == 1


def look_ahead(machine):
    """Return how many letters the machine must look ahead, or None if no number is enough."""
    levels = _levels(trim(machine))
    return len(levels) - 1 if max(levels[-1]) == 0 else None


def look_back(machine):
    """Return the look-ahead of the mirror."""
    return look_ahead(mirror(machine))


def ahead_paper(machine):
    """Return a paper that shows that the look-ahead is not less, or that there is none; None if it is 0."""
    made = trim(machine)
    levels = _levels(made)
    apart = [classes for classes in levels if max(classes) > 0]
    if not apart:
        return None
    pair = (0, apart[-1].index(1))
    if len(apart) < len(levels):
        return _short_paper(made, pair, apart[:-1])
    return _circle_paper(made, pair, apart[-1])


def is_ahead_paper(machine, paper):
    """Tell if the paper is an ahead paper for the machine."""
    if type(paper) is not tuple or not 4 <= len(paper) <= 5:
        return False
    if not all([is_word(machine.reads, thing) for thing in paper]):
        return False
    front, middle, one, two = paper[0], paper[1], paper[-2], paper[-1]
    if len(paper) == 5 and not _goes_around(machine, paper[2], one, two):
        return False
    states = [right_state(machine, middle + behind) for behind in (one, two)]
    return output_between(machine, 0, states[0], front) != output_between(machine, 0, states[1], front)


def _goes_around(machine, circle, one, two):
    """Tell if a word is not empty and leads both words back to their right states."""
    if circle == "":
        return False
    return all([right_state(machine, circle + behind) == right_state(machine, behind) for behind in (one, two)])


def _levels(made):
    """Return for 0, 1 and more letters the classes of the right states of a trim machine.

    States are in one class if all words of so many letters lead them to alike
    states. The last level has all states in one class, or stays for all numbers.
    """
    levels = [alike(made.right, columns(made.table))]
    longer = _level_after(made, levels[0])
    while max(longer) < max(levels[-1]):
        levels.append(longer)
        longer = _level_after(made, longer)
    return levels


def _level_after(made, classes):
    """Return the classes for words that are one letter longer."""
    return numbered([tuple([classes[after] for after in row]) for row in made.right])


def _short_paper(made, pair, levels):
    """Return an ahead paper of four words, for a pair that is not yet led together by as many letters as levels."""
    middle = ""
    last = pair
    for classes in levels[::-1]:
        k, last = _step_apart(made, last, classes)
        middle = made.reads[k] + middle
    one, two = _words_of(made, pair)
    return (separator(made, "right", last[0], last[1]), middle, one, two)


def _circle_paper(made, pair, classes):
    """Return an ahead paper of five words, for a pair from which words lead that never lead it together."""
    places = {}
    read = ""
    while pair not in places:
        places[pair] = len(read)
        k, pair = _step_apart(made, pair, classes)
        read = made.reads[k] + read
    circle = read[:len(read) - places[pair]]
    one, two = _words_of(made, pair)
    return (separator(made, "right", pair[0], pair[1]), "", circle, one, two)


def _step_apart(made, pair, classes):
    """Return the first letter that leads a pair into two classes, and the pair to which it leads."""
    afters = list(zip(made.right[pair[0]], made.right[pair[1]]))
    k = [classes[one] != classes[two] for one, two in afters].index(True)
    return (k, afters[k])


def _words_of(made, pair):
    """Return the first words of both right states."""
    words = right_words([made.right], made.reads)
    return [words[(state,)] for state in pair]
