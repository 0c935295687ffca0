"""Machines to test with, and the document's definitions written down as directly as possible."""

from itertools import product

from foreaft.machines import Machine


def words_up_to(alphabet, length):
    """All words up to a length, in the order of words."""
    for many in range(length + 1):
        for letters in product(alphabet, repeat=many):
            yield "".join(letters)


def plain_left(machine, start, word):
    if word == "":
        return start
    return machine.left[plain_left(machine, start, word[:-1])][machine.reads.index(word[-1])]


def plain_right(machine, start, word):
    if word == "":
        return start
    return machine.right[plain_right(machine, start, word[1:])][machine.reads.index(word[0])]


def plain_between(machine, left, right, word):
    out = ""
    for place, letter in enumerate(word):
        i = plain_left(machine, left, word[:place])
        j = plain_right(machine, right, word[place + 1:])
        out += machine.table[i][j][machine.reads.index(letter)]
    return out


def plain_run(machine, word):
    return plain_between(machine, 0, 0, word)


def plain_difference(one, two, length):
    """The first word up to a length with different outputs, or None."""
    for word in words_up_to(one.reads, length):
        if plain_run(one, word) != plain_run(two, word):
            return word
    return None


def plain_first_words(machine, state_of, length):
    """The states of all words up to a length, each with its first word."""
    found = {}
    for word in words_up_to(machine.reads, length):
        found.setdefault(state_of(machine, 0, word), word)
    return found


def is_right_paper(one, two, paper):
    """Point 10, word by word."""
    lefts, rights = paper
    letters = range(len(one.reads))
    if (0, 0) not in lefts or (0, 0) not in rights:
        return False
    for i, m in lefts:
        for k in letters:
            if (one.left[i][k], two.left[m][k]) not in lefts:
                return False
    for j, n in rights:
        for k in letters:
            if (one.right[j][k], two.right[n][k]) not in rights:
                return False
    return all(
        one.table[i][j][k] == two.table[m][n][k]
        for i, m in lefts for j, n in rights for k in letters
    )


def random_machine(random, reads, writes, lefts, rights):
    many = len(reads)
    return Machine(
        reads, writes,
        [[random.randrange(lefts) for _ in reads] for _ in range(lefts)],
        [[random.randrange(rights) for _ in reads] for _ in range(rights)],
        [["".join(random.choice(writes) for _ in range(many)) for _ in range(rights)] for _ in range(lefts)],
    )


def shuffled(random, machine):
    """A machine that does the same, with its states doubled and numbered in another way (0 stays)."""
    left, left_at = doubled(random, machine.left)
    right, right_at = doubled(random, machine.right)
    table = [[machine.table[i][j] for j in right_at] for i in left_at]
    return Machine(machine.reads, machine.writes, left, right, table)


def doubled(random, rows):
    old = list(range(len(rows))) * 2
    rest = old[1:]
    random.shuffle(rest)
    old = [0] + rest
    copies = {}
    for new, state in enumerate(old):
        copies.setdefault(state, []).append(new)
    return [[random.choice(copies[after]) for after in rows[state]] for state in old], old


def windows(letters, length):
    """A machine that changes nothing, with a state for each word up to a length on each side."""
    seen = list(words_up_to(letters, length))
    left = [[seen.index((word + letter)[-length:]) for letter in letters] for word in seen]
    right = [[seen.index((letter + word)[:length]) for letter in letters] for word in seen]
    return Machine(letters, letters, left, right, [[letters for _ in seen] for _ in seen])


def cycle(states, letters):
    """Transitions around a circle, the same for each letter."""
    return [[(state + 1) % states] * letters for state in range(states)]


def spread(machine):
    """The five arguments of a machine as fresh lists."""
    return [
        machine.reads, machine.writes,
        [list(row) for row in machine.left],
        [list(row) for row in machine.right],
        [list(row) for row in machine.table],
    ]


def copied(machine):
    return Machine(*spread(machine))


def voiced_end():
    """d becomes t at the end of a word (point 34)."""
    return Machine("adt", "adt", [[0, 0, 0]], [[1, 1, 1], [1, 1, 1]], [["att", "adt"]])


def voiced_between():
    """t becomes d directly between two a (point 34)."""
    return Machine(
        "adt", "adt", [[1, 0, 0], [1, 0, 0]], [[1, 0, 0], [1, 0, 0]],
        [["adt", "adt"], ["adt", "add"]],
    )


def both_rules():
    """The second one, then the first one (point 34)."""
    return Machine(
        "adt", "adt", [[1, 0, 0], [1, 0, 0]], [[1, 2, 2], [1, 2, 2], [1, 2, 2]],
        [["att", "adt", "adt"], ["att", "add", "adt"]],
    )


def behind_a():
    """F of point 35: each a directly behind another a becomes b."""
    return Machine("ab", "ab", [[1, 0], [1, 0]], [[0, 0]], [["ab"], ["bb"]])


def before_a():
    """G of point 35: each a directly in front of another a becomes b."""
    return Machine("ab", "ab", [[0, 0]], [[1, 0], [1, 0]], [["ab", "bb"]])


def sums():
    """Sums modulo 2 (point 35)."""
    return Machine("xy", "xy", [[0, 1], [1, 0]], [[0, 0]], [["xy"], ["yx"]])
