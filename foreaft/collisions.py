"""Different words with the same output.

Two words of one length are read side by side, letter by letter. A spot is the left
state of the letters of one of them that are read, and the right state of the others.
A node is the spots of both words, and if they have differed so far: 1 or 0.
"""

from foreaft.images import preimages
from foreaft.least import least
from foreaft.machines import run


def is_injective(machine):
    """Tell if no two different words have the same output."""
    return collision(machine) is None


def collision(machine):
    """Return the least pair of different words with the same output, or None if there is none."""
    made = least(machine)
    befores, afters = _steps(made)
    rests = _rests(befores, [(i, 0) for i in range(len(made.left))])
    starts = [node for node in rests if node[0][0] == 0 and node[1][0] == 0 and node[2] == 0]
    if not starts:
        return None
    word = _first_word(made.reads, afters, rests, starts)
    # An earlier word with this output would be the first word of a pair, so this one is its first preimage.
    first, second = preimages(made, run(made, word), 2)
    return (first, second)


def _steps(made):
    """Return the steps into each spot, and out of each spot: the index of a letter, its output, the other spot."""
    befores = {}
    afters = {}
    for i, row in enumerate(made.left):
        for j, others in enumerate(made.right):
            for k, letter in enumerate(made.table[i][j]):
                source, target = (i, others[k]), (row[k], j)
                befores.setdefault(target, []).append((k, letter, source))
                afters.setdefault(source, []).append((k, letter, target))
    return (befores, afters)


def _rests(befores, ends):
    """Return the nodes from which both words can end, different, each with the least number of letters for it."""
    level = [(one, other, 1) for one in ends for other in ends]
    rests = {node: 0 for node in level}
    many = 0
    while level:
        many += 1
        fresh = []
        for node in level:
            for before in _nodes_before(befores, node):
                if before not in rests:
                    rests[before] = many
                    fresh.append(before)
        level = fresh
    return rests


def _nodes_before(befores, node):
    """Return the nodes from which one letter of each word, which both become the same, leads to a node."""
    one, other, apart = node
    found = []
    for k, other_k, spot, other_spot in _side_by_side(befores, one, other):
        if apart == 1:
            found.append((spot, other_spot, 1))
        if apart == int(k != other_k):
            found.append((spot, other_spot, 0))
    return found


def _nodes_after(afters, node):
    """Return the nodes to which one letter of each word, which both become the same, leads, with the first index."""
    one, other, apart = node
    return [
        (k, (spot, other_spot, max(apart, int(k != other_k))))
        for k, other_k, spot, other_spot in _side_by_side(afters, one, other)
    ]


def _side_by_side(steps, one, other):
    """Return the pairs of steps of two spots with the same output: both indices, both spots."""
    return [
        (k, other_k, spot, other_spot)
        for k, letter, spot in steps.get(one, [])
        for other_k, other_letter, other_spot in steps.get(other, []) if letter == other_letter
    ]


def _first_word(letters, afters, rests, starts):
    """Return the first word of the least length that leads, beside some other word, from a start to an end."""
    least_rest = min([rests[node] for node in starts])
    level = [node for node in starts if rests[node] == least_rest]
    word = ""
    for rest in range(least_rest - 1, -1, -1):
        # A node that is nearer to the end than this would make a shorter pair, so there is none.
        found = [step for node in level for step in _nodes_after(afters, node) if rests.get(step[1]) == rest]
        first_k = min([k for k, _ in found])
        word += letters[first_k]
        level = list({node: True for k, node in found if k == first_k})
    return word
