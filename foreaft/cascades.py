"""One machine after another one."""

from foreaft.compare import difference
from foreaft.errors import MachineError
from foreaft.least import least, least_of_parts
from foreaft.machines import form, mirror
from foreaft.walks import reached
from foreaft.words import indices

MOST_COMPOSED = 100


def compose(first, second):
    """Return the least machine of the second one after the first one."""
    if first.writes != second.reads:
        raise MachineError("alphabets do not fit")
    one, two = least(first), least(second)
    lefts, left = _composed_states(one, two)
    rights, right = _composed_states(mirror(one), mirror(two))
    table = [[_written(one, two, before, behind) for behind in rights] for before in lefts]
    return least_of_parts(one.reads, two.writes, left, right, table)


def cascade(machines):
    """Return the least machine of all the machines, one after the other."""
    made = least(machines[0])
    for machine in machines[1:]:
        made = compose(made, machine)
    return made


def commutes(one, two):
    """Tell if both orders of two machines do the same."""
    made, other = _both_orders(one, two)
    return form(made) == form(other)


def order_difference(one, two):
    """Return the first word for which both orders give different outputs, or None."""
    made, other = _both_orders(one, two)
    return difference(made, other)


def is_idempotent(machine):
    """Tell if the machine after itself does what it does once."""
    return form(compose(machine, machine)) == form(least(machine))


def _both_orders(one, two):
    """Return the least machines of both orders."""
    if not one.reads == one.writes == two.reads == two.writes:
        raise MachineError("alphabets do not fit")
    return (compose(one, two), compose(two, one))


def _composed_states(one, two):
    """Return the left states that words have in the composed machine, and their rows.

    Such a state is a left state of the first machine and, for each right state
    of it, a left state of the second machine.
    """
    start = (0, (0,) * len(one.right))
    return reached(start, lambda state: _states_after(one, two, state), MOST_COMPOSED)


def _states_after(one, two, state):
    """Return the composed left states to which the letters lead."""
    i, rest = state
    afters = []
    for k, after in enumerate(one.left[i]):
        reads = indices(two.reads, [written[k] for written in one.table[i]])
        befores = [rest[row[k]] for row in one.right]
        afters.append((after, tuple([two.left[before][letter] for before, letter in zip(befores, reads)])))
    return afters


def _written(one, two, before, behind):
    """Return what the second machine writes for each letter between composed states."""
    i, lefts = before
    j, rights = behind
    written = ""
    for k, letter in enumerate(indices(two.reads, one.table[i][j])):
        written += two.table[lefts[one.right[j][k]]][rights[one.left[i][k]]][letter]
    return written
