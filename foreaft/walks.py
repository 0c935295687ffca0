"""The first words that lead to states, of one machine or of several side by side.

Tables are lists of transition rows, one table for each machine; the states of
the machines for one word are a tuple with a state for each table.
"""


def left_words(tables, letters):
    """Return the tuples of left states that words have, each with its first word.

    They stand in the order of these words.
    """
    start = (0,) * len(tables)
    words = {start: ""}
    level = [start]
    while level:
        fresh = []
        for states in level:
            for k, letter in enumerate(letters):
                after = states_after(tables, states, k)
                if after not in words:
                    words[after] = words[states] + letter
                    fresh.append(after)
        level = fresh
    return words


def right_words(tables, letters):
    """Return the tuples of right states that words have, each with its first word.

    They stand in the order of these words.
    """
    start = (0,) * len(tables)
    words = {start: ""}
    level = [start]
    while level:
        fresh = []
        # The letter that is read last stands in front, so it decides the order first.
        for k, letter in enumerate(letters):
            for states in level:
                after = states_after(tables, states, k)
                if after not in words:
                    words[after] = letter + words[states]
                    fresh.append(after)
        level = fresh
    return words


def states_after(tables, states, k):
    """Return the states to which the letter with the index k leads."""
    return tuple([rows[state][k] for rows, state in zip(tables, states)])
