"""Books of passes: machines that are carried out one after the other."""

from foreaft.cascades import commutes, compose
from foreaft.errors import BookError
from foreaft.machines import Machine, form, identity, run

MOST_PASSES = 6


class Book:
    """Passes over one alphabet, which can be changed, and the changes undone."""

    def __init__(self, alphabet):
        self.alphabet = alphabet
        # The passes, and what they were before each change. The tuples and the machines in them are never
        # changed and never given away, so that copies of the book can share them.
        self._passes = ()
        self._earlier = []

    def passes(self):
        """Return the list of the passes."""
        return [_copy_of(machine) for machine in self._passes]

    def size(self):
        """Return the number of the passes."""
        return len(self._passes)

    def insert(self, index, machine):
        """Insert a pass, which then has this index."""
        if not 0 <= index <= len(self._passes):
            raise BookError("no such place")
        if len(self._passes) == MOST_PASSES:
            raise BookError("too many passes")
        if machine.reads != self.alphabet or machine.writes != self.alphabet:
            raise BookError("alphabets do not fit")
        self._change(_with(self._passes, index, _copy_of(machine)))

    def remove(self, index):
        """Remove a pass."""
        self._check(index)
        self._change(_without(self._passes, index))

    def move(self, start, end):
        """Take out the pass start, and put it in so that it has the index end."""
        self._check(start)
        self._check(end)
        self._change(_with(_without(self._passes, start), end, self._passes[start]))

    def apply(self, word):
        """Return what all passes make of a word."""
        return self.trace(word)[-1]

    def trace(self, word):
        """Return the list of the word and of what it is behind each pass."""
        words = [word]
        for machine in self._passes:
            words.append(run(machine, words[-1]))
        return words

    def whole(self):
        """Return the least machine of all passes."""
        return _composed(identity(self.alphabet), self._passes)

    def can_swap(self, index):
        """Tell if the pass with this index and the next one can be swapped."""
        self._check(index)
        self._check(index + 1)
        return commutes(self._passes[index], self._passes[index + 1])

    def idle_passes(self):
        """Return the list of the indices of the passes without which the others do the same."""
        befores = [identity(self.alphabet)]
        for machine in self._passes:
            befores.append(compose(befores[-1], machine))
        idle = []
        for index in range(len(self._passes)):
            others = _composed(befores[index], self._passes[index + 1:])
            if form(others) == form(befores[-1]):
                idle.append(index)
        return idle

    def undo(self):
        """Undo the last change that was not undone; tell if there was one."""
        if not self._earlier:
            return False
        self._passes = self._earlier.pop()
        return True

    def copy(self):
        """Return a new book with the same passes, and the same that can be undone."""
        made = Book(self.alphabet)
        made._passes = self._passes
        made._earlier = list(self._earlier)
        return made

    def _check(self, index):
        """Refuse an index that no pass has."""
        if not 0 <= index < len(self._passes):
            raise BookError("no such pass")

    def _change(self, passes):
        """Put other passes in the place of those that are there."""
        self._earlier.append(self._passes)
        self._passes = passes


def _copy_of(machine):
    """Return an equal machine."""
    return Machine(machine.reads, machine.writes, machine.left, machine.right, machine.table)


def _with(passes, index, machine):
    """Return the passes with one more at an index."""
    return passes[:index] + (machine,) + passes[index:]


def _without(passes, index):
    """Return the passes without the one with an index."""
    return passes[:index] + passes[index + 1:]


def _composed(made, passes):
    """Return the least machine that does what a machine does and then, one after the other, the passes."""
    # With the identity first, this gives what composing from the first pass on gives, and is refused just as it is.
    for machine in passes:
        made = compose(made, machine)
    return made
