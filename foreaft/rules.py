"""Lists of rules that replace letters by what stands in front of them and behind them."""

from foreaft.errors import MachineError, RuleError
from foreaft.least import least_of_parts
from foreaft.nets import anywhere, fits_along, least_deterministic, net_of, turned
from foreaft.syntax import pattern_end
from foreaft.walks import reached, states_after
from foreaft.words import indices

MOST_RULES = 6
MOST_TOLD_APART = 100


class Rules:
    """A text of rules over an alphabet, one in a line."""

    def __init__(self, alphabet, text):
        self.alphabet = alphabet
        self.text = text
        self.rules = []
        for number, line in enumerate(text.split("\n")):
            if number == MOST_RULES:
                raise RuleError(number, 0, "too many rules")
            self.rules.append(_rule_of(alphabet, number, line))


class Rule:
    """A letter, what becomes of it, and the nets of the front and, read from the end, of the behind."""

    def __init__(self, letter, becomes, front, behind):
        self.letter = letter
        self.becomes = becomes
        self.front = front
        self.behind = behind


def applied(rules, word):
    """Return what the rules make of a word."""
    numbers = which(rules, word)
    changed = [letter if at is None else rules.rules[at].becomes for letter, at in zip(word, numbers)]
    return "".join(changed)


def which(rules, word):
    """Return for each place of a word the number of the rule that applies there, or None."""
    read = indices(rules.alphabet, word)
    found = [None] * len(word)
    # From the last rule on, so that the first one stays.
    for number in range(len(rules.rules) - 1, -1, -1):
        rule = rules.rules[number]
        fronts = fits_along(rule.front, read)
        behinds = fits_along(rule.behind, read[::-1])
        for place, letter in enumerate(word):
            if letter == rule.letter and fronts[place] and behinds[len(word) - place - 1]:
                found[place] = number
    return found


def machine_of(rules):
    """Return the least machine that does to every word what the rules do."""
    left, fronts = _told_apart([rule.front for rule in rules.rules])
    right, behinds = _told_apart([rule.behind for rule in rules.rules])
    table = [[_written(rules, front & behind) for behind in behinds] for front in fronts]
    return least_of_parts(rules.alphabet, rules.alphabet, left, right, table)


def _rule_of(alphabet, number, line):
    """Return the rule of a line with this number."""
    for place, letters in enumerate([alphabet, ">", alphabet, "/"]):
        _expect(number, line, place, letters)
    front = 5 if line[4:5] == "#" else 4
    front_end = _pattern_end(alphabet, number, line, front)
    _expect(number, line, front_end, "_")
    behind = front_end + 1
    behind_end = _pattern_end(alphabet, number, line, behind)
    end = behind_end + 1 if line[behind_end:behind_end + 1] == "#" else behind_end
    if end < len(line):
        raise RuleError(number, end, "unexpected")
    front_net = net_of(alphabet, line[front:front_end])
    behind_net = turned(net_of(alphabet, line[behind:behind_end]))
    return Rule(
        line[0], line[2],
        anywhere(front_net) if front == 4 else front_net,
        anywhere(behind_net) if end == behind_end else behind_net,
    )


def _expect(number, line, place, letters):
    """Refuse a line that has none of the letters at a place."""
    if place == len(line):
        raise RuleError(number, place, "too short")
    if line[place] not in letters:
        raise RuleError(number, place, "unexpected")


def _pattern_end(alphabet, number, line, start):
    """Return the place at which the pattern that begins at start ends."""
    place, reason = pattern_end(alphabet, line, start, "_#")
    if reason is not None:
        raise RuleError(number, place, reason)
    return place


def _told_apart(nets):
    """Return the rows of the states that tell words apart, and for each state the set of the nets that it fits.

    A set is a number with a bit for each net.
    """
    automata = []
    for net in nets:
        automata.append(least_deterministic(net))
        # What one net tells apart, all of them tell apart, and large automata take long together.
        if len(automata[-1][0]) > MOST_TOLD_APART:
            raise MachineError("too many states")
    # Each automaton is least, so words are told apart exactly if their states differ in one of them.
    tables = [table for table, _ in automata]
    letters = len(nets[0].reading)
    sets, rows = reached((0,) * len(nets), lambda states: _states_after(tables, states, letters), MOST_TOLD_APART)
    return (rows, [_fitting(automata, states) for states in sets])


def _states_after(tables, states, letters):
    """Return for each letter the states to which it leads, side by side."""
    return [states_after(tables, states, k) for k in range(letters)]


def _fitting(automata, states):
    """Return the set of the automata that have read a word in these states."""
    ends = [fits[state] for (_, fits), state in zip(automata, states)]
    return sum([1 << number for number, end in enumerate(ends) if end])


def _written(rules, fitting):
    """Return what becomes of each letter where the set of rules whose front and behind fit is this one."""
    written = ""
    for letter in rules.alphabet:
        becomes = [
            rule.becomes for number, rule in enumerate(rules.rules)
            if fitting >> number & 1 and rule.letter == letter
        ]
        written += becomes[0] if becomes else letter
    return written
