import random
import unittest

from foreaft.collisions import collision, is_injective
from foreaft.images import count_preimages
from foreaft.machines import Machine, form, identity, mirror, run
from tests import helpers
from tests.helpers import copied, cycle, random_machine, shuffled, some_machines, words_up_to


def plain_collision(machine, length):
    """Point 22: the least collision of words up to a length, or None."""
    for many in range(length + 1):
        firsts = {}
        pairs = []
        for word in words_up_to(machine.reads, many):
            if len(word) == many:
                first = firsts.setdefault(run(machine, word), word)
                if first != word:
                    pairs.append((first, word))
        if pairs:
            # The words come in order, so the first pair of each first word has its first second word.
            return min(pairs, key=lambda pair: [[machine.reads.index(letter) for letter in word] for word in pair])
    return None


def rounds(lefts, rights, letters="ab"):
    """Changes nothing, but writes the first letter for each one at the end of a round from both sides."""
    table = [[letters for _ in range(rights)] for _ in range(lefts)]
    table[-1][-1] = letters[0] * len(letters)
    return Machine(letters, letters, cycle(lefts, len(letters)), cycle(rights, len(letters)), table)


def nearly_injective(source, reads, lefts, rights):
    """A random machine that writes different letters for different letters between most states."""
    machine = random_machine(source, reads, reads, lefts, rights)
    table = [["".join(source.sample(reads, len(reads))) for _ in range(rights)] for _ in range(lefts)]
    if source.random() < 0.5:
        table[source.randrange(lefts)][source.randrange(rights)] = reads[0] * len(reads)
    return Machine(reads, reads, machine.left, machine.right, table)


class TestCollision(unittest.TestCase):
    def check_none(self, machine):
        self.assertIsNone(collision(machine))
        self.assertIs(is_injective(machine), True)

    def check(self, machine, pair):
        self.assertEqual(collision(machine), pair)
        self.assertIs(is_injective(machine), False)

    def test_point_35(self):
        self.check(helpers.behind_a(), ("aa", "ab"))
        self.check(helpers.before_a(), ("aa", "ba"))
        self.check_none(helpers.sums())
        self.check_none(mirror(helpers.sums()))

    def test_point_34(self):
        self.check(helpers.voiced_end(), ("d", "t"))
        self.check(helpers.voiced_between(), ("ada", "ata"))
        self.check(helpers.both_rules(), ("d", "t"))

    def test_injective(self):
        for machine in (
            identity("a"), identity("ab"), identity("edcba"), helpers.windows("ab", 1),
            Machine("a", "b", cycle(6, 1), cycle(6, 1), [["b"] * 6] * 6),
            Machine("ab", "xyz", [[0, 1], [1, 0]], [[0, 0]], [["xz"], ["zy"]]),
            # Each letter turned an odd number of times in front and behind.
            Machine("ab", "ab", [[0, 1], [1, 0]], [[0, 1], [1, 0]], [["ab", "ab"], ["ba", "ba"]]),
        ):
            self.check_none(machine)

    def test_order_of_pairs(self):
        # In the order of the alphabet, not in that of the letters from a to z.
        self.check(Machine("ba", "ab", [[0, 0]], [[0, 0]], [["aa"]]), ("b", "a"))
        self.check(Machine("cab", "xy", [[0, 0, 0]], [[0, 0, 0]], [["xyx"]]), ("c", "b"))
        self.check(Machine("cab", "xy", [[0, 0, 0]], [[0, 0, 0]], [["xyy"]]), ("a", "b"))
        self.check(Machine("abcde", "xyz", [[0] * 5], [[0] * 5], [["xyzzy"]]), ("b", "e"))

    def test_one_letter(self):
        for machine in (helpers.ladder("a", 6, 6), rounds(6, 6, "a"), identity("a")):
            self.check_none(machine)

    def test_rounds(self):
        # Only the last place of a round from both sides forgets its letter.
        for lefts in range(1, 7):
            for rights in range(1, 7):
                place = "a" * (lefts - 1)
                behind = "a" * (rights - 1)
                self.check(rounds(lefts, rights), (place + "a" + behind, place + "b" + behind))

    def test_all_short_words(self):
        told = {}
        source = random.Random(120)
        for at in range(300):
            reads = source.choice(["ab", "ba", "cab"])
            machine = nearly_injective(source, reads, source.randint(1, 4), source.randint(1, 4))
            if at % 4 == 0:
                machine = next(some_machines(121 + at, 1))
            most = {1: 9, 2: 8, 3: 5}[len(machine.reads)]
            expected = plain_collision(machine, most)
            found = collision(machine)
            if expected is None:
                self.assertTrue(found is None or len(found[0]) > most)
            else:
                self.check(machine, expected)
            length = None if found is None else len(found[0])
            told[length] = told.get(length, 0) + 1
        self.assertTrue(all(told.get(length, 0) >= 5 for length in (None, 1, 2, 3, 4)), told)

    def test_pairs_are_collisions(self):
        lengths = {}
        source = random.Random(122)
        for _ in range(150):
            machine = nearly_injective(source, source.choice(["ab", "abc", "abcde"]), 6, 6)
            found = collision(machine)
            if found is not None:
                one, two = found
                self.assertNotEqual(one, two)
                self.assertEqual(run(machine, one), run(machine, two))
                self.assertGreater(count_preimages(machine, run(machine, one)), 1)
                lengths[len(one)] = True
                turned = collision(mirror(machine))
                self.assertEqual(len(turned[0]), len(one))
            else:
                self.assertIsNone(collision(mirror(machine)))
                for _ in range(20):
                    word = "".join(source.choice(machine.reads) for _ in range(source.randint(0, 30)))
                    self.assertEqual(count_preimages(machine, run(machine, word)), 1)
        self.assertGreater(len(lengths), 3)

    def test_machines_with_more_states_than_needed(self):
        source = random.Random(123)
        for machine in some_machines(124, 60):
            expected = collision(machine)
            self.assertEqual(collision(shuffled(source, machine)), expected)
            self.assertIs(is_injective(shuffled(source, machine)), expected is None)

    def test_first_words_that_no_state_has(self):
        # The states that forget are not reached, or only with others on the other side.
        left = [[0, 0], [1, 1]]
        self.check_none(Machine("ab", "ab", left, [[0, 0]], [["ab"], ["aa"]]))
        self.check_none(Machine("ab", "ab", [[0, 0]], left, [["ab", "aa"]]))
        left = [[1, 1], [0, 0]]
        table = [["ab", "ba"], ["ba", "aa"]]
        # Of two letters one has an even number in front and one an odd number behind, or the other way round.
        self.check(Machine("ab", "ab", left, left, table), plain_collision(Machine("ab", "ab", left, left, table), 8))

    def test_pair_of_words(self):
        found = collision(helpers.behind_a())
        self.assertIs(type(found), tuple)
        self.assertEqual(len(found), 2)


class TestArguments(unittest.TestCase):
    def test_arguments_stay(self):
        for machine in (copied(helpers.both_rules()), copied(helpers.sums())):
            before = form(machine)
            collision(machine)
            is_injective(machine)
            self.assertEqual(form(machine), before)


if __name__ == "__main__":
    unittest.main()
