"""Machines to test with, and the document's definitions written down as directly as possible."""

import random
from itertools import product

from foreaft.machines import Machine, run


def words_up_to(alphabet, length):
    """All words up to a length, in the order of words."""
    for many in range(length + 1):
        for letters in product(alphabet, repeat=many):
            yield "".join(letters)


def plain_left(machine, start, word):
    if word == "":
        return start
    return machine.left[plain_left(machine, start, word[:-1])][machine.reads.index(word[-1])]


def plain_right(machine, start, word):
    if word == "":
        return start
    return machine.right[plain_right(machine, start, word[1:])][machine.reads.index(word[0])]


def plain_between(machine, left, right, word):
    out = ""
    for place, letter in enumerate(word):
        i = plain_left(machine, left, word[:place])
        j = plain_right(machine, right, word[place + 1:])
        out += machine.table[i][j][machine.reads.index(letter)]
    return out


def plain_run(machine, word):
    return plain_between(machine, 0, 0, word)


def plain_difference(one, two, length):
    """The first word up to a length with different outputs, or None."""
    for word in words_up_to(one.reads, length):
        if plain_run(one, word) != plain_run(two, word):
            return word
    return None


def plain_first_words(machine, state_of, length):
    """The states of all words up to a length, each with its first word."""
    found = {}
    for word in words_up_to(machine.reads, length):
        found.setdefault(state_of(machine, 0, word), word)
    return found


def is_right_paper(one, two, paper):
    """Point 10, word by word."""
    lefts, rights = paper
    letters = range(len(one.reads))
    if (0, 0) not in lefts or (0, 0) not in rights:
        return False
    for i, m in lefts:
        for k in letters:
            if (one.left[i][k], two.left[m][k]) not in lefts:
                return False
    for j, n in rights:
        for k in letters:
            if (one.right[j][k], two.right[n][k]) not in rights:
                return False
    return all(
        one.table[i][j][k] == two.table[m][n][k]
        for i, m in lefts for j, n in rights for k in letters
    )


def plain_classes(states, outputs_of):
    """The states, sorted into lists of those with equal outputs."""
    classes = {}
    for state in states:
        classes.setdefault(outputs_of(state), []).append(state)
    return list(classes.values())


def plain_least(machine):
    """Point 12, by the outputs for all words that can matter."""
    lefts = list(plain_first_words(machine, plain_left, len(machine.left) - 1))
    rights = list(plain_first_words(machine, plain_right, len(machine.right) - 1))
    words = list(words_up_to(machine.reads, len(lefts) + len(rights) - 1))
    left_classes = plain_classes(
        lefts, lambda i: tuple(plain_between(machine, i, 0, word) for word in words),
    )
    right_classes = plain_classes(
        rights, lambda j: tuple(plain_between(machine, 0, j, word) for word in words),
    )
    left = [[number_of(left_classes, to) for to in machine.left[states[-1]]] for states in left_classes]
    right = [[number_of(right_classes, to) for to in machine.right[states[-1]]] for states in right_classes]
    table = [[machine.table[i[-1]][j[-1]] for j in right_classes] for i in left_classes]
    return Machine(machine.reads, machine.writes, left, right, table)


def number_of(classes, state):
    return [state in states for states in classes].index(True)


def plain_separator(machine, side, one, two, length):
    """The first word up to a length for which the outputs from two states of a side differ, or None."""
    for word in words_up_to(machine.reads, length):
        if side == "left":
            outputs = [plain_between(machine, state, 0, word) for state in (one, two)]
        else:
            outputs = [plain_between(machine, 0, state, word) for state in (one, two)]
        if outputs[0] != outputs[1]:
            return word
    return None


def is_right_least_paper(machine, paper):
    """Point 15, word by word, for a tuple of four lists of words."""
    lefts, rights, left_splits, right_splits = paper
    many, more = len(machine.left), len(machine.right)
    if [plain_left(machine, 0, word) for word in lefts] != list(range(many)):
        return False
    if [plain_right(machine, 0, word) for word in rights] != list(range(more)):
        return False
    if len(left_splits) != many * (many - 1) // 2 or len(right_splits) != more * (more - 1) // 2:
        return False
    place = 0
    for two in range(many):
        for one in range(two):
            word = left_splits[place]
            if plain_between(machine, one, 0, word) == plain_between(machine, two, 0, word):
                return False
            place += 1
    place = 0
    for two in range(more):
        for one in range(two):
            word = right_splits[place]
            if plain_between(machine, 0, one, word) == plain_between(machine, 0, two, word):
                return False
            place += 1
    return True


def plain_look_ahead(machine, most):
    """Point 17 for machines with at most 2 left and 3 right states, or None if it is more than most."""
    fronts = list(words_up_to(machine.reads, 3))
    ends = list(words_up_to(machine.reads, 2))
    for many in range(most + 1):
        outputs = {}
        for letters in product(machine.reads, repeat=many):
            for front in fronts:
                for end in ends:
                    begun = run(machine, front + "".join(letters) + end)[:len(front)]
                    outputs.setdefault((front, letters), set()).add(begun)
        if all(len(begun) == 1 for begun in outputs.values()):
            return many
    return None


def is_right_ahead_paper(machine, paper):
    """Point 18, for a tuple of four or five words."""
    front, middle, one, two = paper[0], paper[1], paper[-2], paper[-1]
    if len(paper) == 5:
        circle = paper[2]
        if circle == "":
            return False
        for end in (one, two):
            if plain_right(machine, 0, circle + end) != plain_right(machine, 0, end):
                return False
    outputs = [plain_run(machine, front + middle + end)[:len(front)] for end in (one, two)]
    return outputs[0] != outputs[1]


def ladder(letters="a", many=40, more=40):
    """A machine that counts the letters on both sides, and writes another letter only where both are many."""
    last = letters[-1]
    left = [[min(state + 1, many - 1)] * len(letters) for state in range(many)]
    right = [[min(state + 1, more - 1)] * len(letters) for state in range(more)]
    other = "b" if last != "b" else "c"
    table = [[last * len(letters)] * more for _ in range(many)]
    table[-1][-1] = other * len(letters)
    return Machine(letters, last + other, left, right, table)


def some_machines(seed, many, sizes=((1, 1), (1, 2), (2, 1), (2, 2), (3, 2), (2, 3), (3, 3))):
    """Random small machines, some of them with states that are alike or that no word has."""
    source = random.Random(seed)
    for at in range(many):
        lefts, rights = sizes[at % len(sizes)]
        reads = source.choice(["ab", "ba", "ab", "ba", "a", "cab"])
        writes = source.choice(["ab", "ba", "xyz", "b"])
        machine = random_machine(source, reads, writes, lefts, rights)
        if source.random() < 0.4:
            machine = mostly_alike(source, machine)
        yield machine


def mostly_alike(source, machine):
    """The machine with one string in most places of its table."""
    usual = machine.table[0][0]
    table = [[written if source.random() < 0.3 else usual for written in row] for row in machine.table]
    return Machine(machine.reads, machine.writes, machine.left, machine.right, table)


def mostly_reset(source, machine):
    """The machine with right states that lead to one and the same state by most letters."""
    usual = [source.randrange(len(machine.right)) for _ in machine.reads]
    right = [[source.choice([to, after, to]) for to, after in zip(usual, row)] for row in machine.right]
    return Machine(machine.reads, machine.writes, machine.left, right, machine.table)


def random_machine(source, reads, writes, lefts, rights):
    many = len(reads)
    return Machine(
        reads, writes,
        [[source.randrange(lefts) for _ in reads] for _ in range(lefts)],
        [[source.randrange(rights) for _ in reads] for _ in range(rights)],
        [["".join(source.choice(writes) for _ in range(many)) for _ in range(rights)] for _ in range(lefts)],
    )


def shuffled(source, machine):
    """A machine that does the same, with its states doubled and numbered in another way (0 stays)."""
    left, left_at = doubled(source, machine.left)
    right, right_at = doubled(source, machine.right)
    table = [[machine.table[i][j] for j in right_at] for i in left_at]
    return Machine(machine.reads, machine.writes, left, right, table)


def doubled(source, rows):
    old = list(range(len(rows))) * 2
    rest = old[1:]
    source.shuffle(rest)
    old = [0] + rest
    copies = {}
    for new, state in enumerate(old):
        copies.setdefault(state, []).append(new)
    return [[source.choice(copies[after]) for after in rows[state]] for state in old], old


def windows(letters, length):
    """A machine that changes nothing, with a state for each word up to a length on each side."""
    seen = list(words_up_to(letters, length))
    left = [[seen.index((word + letter)[-length:]) for letter in letters] for word in seen]
    right = [[seen.index((letter + word)[:length]) for letter in letters] for word in seen]
    return Machine(letters, letters, left, right, [[letters for _ in seen] for _ in seen])


def cycle(states, letters):
    """Transitions around a circle, the same for each letter."""
    return [[(state + 1) % states] * letters for state in range(states)]


def spread(machine):
    """The five arguments of a machine as fresh lists."""
    return [
        machine.reads, machine.writes,
        [list(row) for row in machine.left],
        [list(row) for row in machine.right],
        [list(row) for row in machine.table],
    ]


def copied(machine):
    return Machine(*spread(machine))


def voiced_end():
    """d becomes t at the end of a word (point 34)."""
    return Machine("adt", "adt", [[0, 0, 0]], [[1, 1, 1], [1, 1, 1]], [["att", "adt"]])


def voiced_between():
    """t becomes d directly between two a (point 34)."""
    return Machine(
        "adt", "adt", [[1, 0, 0], [1, 0, 0]], [[1, 0, 0], [1, 0, 0]],
        [["adt", "adt"], ["adt", "add"]],
    )


def both_rules():
    """The second one, then the first one (point 34)."""
    return Machine(
        "adt", "adt", [[1, 0, 0], [1, 0, 0]], [[1, 2, 2], [1, 2, 2], [1, 2, 2]],
        [["att", "adt", "adt"], ["att", "add", "adt"]],
    )


def behind_a():
    """F of point 35: each a directly behind another a becomes b."""
    return Machine("ab", "ab", [[1, 0], [1, 0]], [[0, 0]], [["ab"], ["bb"]])


def before_a():
    """G of point 35: each a directly in front of another a becomes b."""
    return Machine("ab", "ab", [[0, 0]], [[1, 0], [1, 0]], [["ab", "bb"]])


def sums():
    """Sums modulo 2 (point 35)."""
    return Machine("xy", "xy", [[0, 1], [1, 0]], [[0, 0]], [["xy"], ["yx"]])
