import random
import unittest

from foreaft.compare import difference, is_same, is_same_paper, same_paper
from foreaft.errors import MachineError
from foreaft.machines import Machine, form, identity, mirror, recode, run, trim
from tests import helpers
from tests.helpers import copied, cycle, plain_difference, random_machine, shuffled


def changed_letter(machine, i, j, k):
    """The machine with another letter in one place of its table."""
    parts = helpers.spread(machine)
    written = parts[4][i][j]
    other = machine.writes[(machine.writes.index(written[k]) + 1) % len(machine.writes)]
    parts[4][i][j] = written[:k] + other + written[k + 1:]
    return Machine(*parts)


def random_pairs(seed, many):
    """Pairs of small machines, half of them alike except for one letter or not at all."""
    source = random.Random(seed)
    for _ in range(many):
        reads = source.choice(["a", "ab", "ba", "cab", "edcba"])
        writes = source.choice(["ab", "ba", "abc"])
        one = random_machine(source, reads, writes, source.randint(1, 3), source.randint(1, 3))
        two = shuffled(source, one)
        if source.random() < 0.7:
            i, j = source.randrange(len(two.left)), source.randrange(len(two.right))
            two = changed_letter(two, i, j, source.randrange(len(reads)))
        if source.random() < 0.2:
            two = random_machine(source, reads, writes, source.randint(1, 3), source.randint(1, 3))
        yield one, two


def circles(letters="a", one=40, two=39):
    """Two machines that write alike everywhere; only pairs of states tell their circles apart."""
    written = letters[0] * len(letters)
    return [
        Machine(letters, letters, cycle(many, len(letters)), cycle(many, len(letters)), [[written] * many] * many)
        for many in (one, two)
    ]


class TestSame(unittest.TestCase):
    def test_small_machines(self):
        seen = {True: 0, False: 0}
        for one, two in random_pairs(20, 250):
            length = {1: 12, 2: 6, 3: 5, 5: 3}[len(one.reads)]
            first = plain_difference(one, two, length)
            told = difference(one, two)
            if first is None:
                self.assertTrue(told is None or len(told) > length)
            else:
                self.assertEqual(told, first)
            self.assertIs(is_same(one, two), told is None)
            self.assertIs(same_paper(one, two) is None, told is not None)
            if told is not None:
                self.assertNotEqual(run(one, told), run(two, told))
            seen[told is None] += 1
        self.assertGreater(min(seen.values()), 30)

    def test_point_35(self):
        one, two = helpers.behind_a(), helpers.before_a()
        self.assertIs(is_same(one, two), False)
        self.assertEqual(difference(one, two), "aa")
        self.assertEqual((run(one, "aa"), run(two, "aa")), ("ab", "ba"))
        self.assertIsNone(same_paper(one, two))
        self.assertIs(is_same(mirror(one), two), True)

    def test_other_states_same_outputs(self):
        source = random.Random(21)
        for machine in (helpers.both_rules(), helpers.behind_a(), helpers.before_a(), helpers.sums(), identity("abc")):
            for other in (machine, copied(machine), trim(machine), shuffled(source, machine)):
                self.assertIs(is_same(machine, other), True)
                self.assertIsNone(difference(machine, other))

    def test_states_that_no_word_has(self):
        one = Machine("a", "ab", [[0], [0]], [[0], [1]], [["a", "b"], ["a", "b"]])
        two = Machine("a", "ab", [[0]], [[0]], [["a"]])
        self.assertIs(is_same(one, two), True)
        self.assertIsNone(difference(one, two))
        self.assertEqual(same_paper(one, two), ([(0, 0)], [(0, 0)]))

    def test_other_output_alphabets(self):
        one = Machine("ab", "xy", [[0, 0]], [[0, 0]], [["xy"]])
        self.assertIs(is_same(one, Machine("ab", "yx", [[0, 0]], [[0, 0]], [["xy"]])), True)
        self.assertIs(is_same(one, Machine("ab", "vwxyz", [[0, 0]], [[0, 0]], [["xy"]])), True)
        two = Machine("ab", "yx", [[0, 0]], [[0, 0]], [["yx"]])
        self.assertIs(is_same(one, two), False)
        self.assertEqual(difference(one, two), "a")
        self.assertIs(is_same_paper(one, two, ([(0, 0)], [(0, 0)])), False)
        three = recode(one, "pqx", "xp")
        self.assertIs(is_same(one, three), False)
        self.assertEqual(difference(one, three), "b")

    def test_first_in_the_order_of_the_alphabet(self):
        one = identity("ba")
        self.assertEqual(difference(one, Machine("ba", "ab", [[0, 0]], [[0, 0]], [["ab"]])), "b")
        one = identity("edcba")
        self.assertEqual(difference(one, Machine("edcba", "abcde", [[0] * 5], [[0] * 5], [["edaaa"]])), "c")

    def test_one_letter(self):
        # The outputs are equal up to 5 letters: the 1st of 6 letters changes.
        long = Machine("a", "ab", [[1], [1]], [[1], [2], [3], [4], [5], [5]], [["a"] * 5 + ["b"], ["a"] * 6])
        self.assertEqual(difference(identity("a"), long), "aaaaaa")
        self.assertEqual(difference(long, identity("a")), "aaaaaa")
        self.assertEqual(difference(identity("a"), mirror(long)), "aaaaaa")

    def test_shorter_before_earlier(self):
        # b differs behind b b, a differs behind a only.
        one = identity("ab")
        two = Machine("ab", "ab", [[1, 2], [1, 1], [1, 3], [3, 3]], [[0, 0]], [["ab"], ["bb"], ["ab"], ["aa"]])
        self.assertEqual(difference(one, two), "aa")
        two = Machine("ab", "ab", [[1, 2], [3, 3], [1, 3], [3, 3]], [[0, 0]], [["ab"], ["aa"], ["bb"], ["bb"]])
        self.assertEqual(difference(one, two), "ab")

    def test_each_set_of_two_letters(self):
        # Words of two letters that differ in one place, each set of up to three such changes.
        one = helpers.windows("ba", 1)
        changes = [(i, j, k) for i in range(3) for j in range(3) for k in range(2) if (i == 0) != (j == 0)]
        for chosen in [(x, y, z) for x in changes for y in changes for z in changes if x <= y <= z]:
            two = one
            for i, j, k in sorted(set(chosen)):
                two = changed_letter(two, i, j, k)
            self.assertEqual(difference(one, two), plain_difference(one, two, 2), chosen)

    def test_windows(self):
        # Few letters changed between words of up to two letters on each side.
        source = random.Random(27)
        lengths = set()
        for letters, size, most in (("ab", 2, 5), ("ba", 2, 5), ("cab", 1, 3), ("edcba", 1, 3)):
            one = helpers.windows(letters, size)
            for _ in range(60):
                two = one
                for _ in range(source.randint(1, 4)):
                    i, j = source.randrange(1, len(one.left)), source.randrange(len(one.right))
                    if source.random() < 0.5:
                        i, j = j, i
                    two = changed_letter(two, i, j, source.randrange(len(letters)))
                first = plain_difference(one, two, most)
                self.assertEqual(difference(one, two), first)
                self.assertEqual(difference(mirror(one), mirror(two)), plain_difference(mirror(one), mirror(two), most))
                lengths.add(len(first or ""))
        self.assertTrue({2, 3, 4, 5} <= lengths, lengths)

    def test_a_later_front_with_a_shorter_rest(self):
        # b in front of aaa differs, a directly behind an a, too.
        one = identity("ab")
        two = Machine(
            "ab", "ab", [[1, 0], [1, 0]], [[1, 4], [2, 4], [3, 4], [3, 4], [4, 4]],
            [["ab", "ab", "ab", "aa", "ab"], ["bb", "bb", "bb", "ba", "bb"]],
        )
        self.assertEqual(difference(one, two), "aa")

    def test_long_differences(self):
        for letters, more in (("a", 0), ("ba", 1)):
            one, two = circles(letters)
            self.assertIs(is_same(one, two), True)
            self.assertIsNone(difference(one, two))
            parts = helpers.spread(two)
            parts[1] = letters if more else "ab"
            parts[4][38][38] = ("a" if more else "b") * len(letters)
            three = Machine(*parts)
            self.assertIs(is_same(one, three), False)
            self.assertEqual(difference(one, three), letters[0] * 77)
            self.assertEqual(difference(three, one), letters[0] * 77)

    def test_difference_after_all_pairs(self):
        # In front 39 more than a multiple of 40, and 38 more than one of 39: 1559 letters.
        left, other = cycle(40, 1), cycle(39, 1)
        one = Machine("a", "ab", left, [[0]], [["a"]] * 39 + [["b"]])
        two = Machine("a", "ab", other, [[0]], [["a"]] * 39)
        self.assertEqual(difference(one, two), "a" * 40)
        three = Machine("a", "ab", other, [[0]], [["a"]] * 38 + [["b"]])
        self.assertEqual(difference(one, three), "a" * 39)
        ends = Machine("a", "ab", left, other, [["a"] * 39] * 39 + [["a"] * 38 + ["b"]])
        turned = Machine("a", "ab", other, left, [["a"] * 40] * 39)
        self.assertEqual(difference(ends, turned), "a" * 78)

    def test_large_machines(self):
        source = random.Random(22)
        one = random_machine(source, "edcba", "vwxyz", 40, 40)
        two = changed_letter(one, 39, 39, 4)
        self.assertIs(is_same(one, copied(one)), True)
        told = difference(one, two)
        self.assertNotEqual(helpers.plain_run(one, told), helpers.plain_run(two, told))
        self.assertIs(is_same(one, two), False)

    def test_no_pair_forgotten(self):
        # Every pair of the two circles is that of some word; a single letter is spoiled in turn.
        one, two = circles("ab", 4, 3)
        self.assertIs(is_same(one, two), True)
        for i in range(3):
            for j in range(3):
                for k in range(2):
                    other = changed_letter(two, i, j, k)
                    first = "a" * i + "ab"[k] + "a" * j
                    self.assertEqual(difference(one, other), first)
                    self.assertEqual(difference(other, one), first)
                    self.assertIs(is_same(one, other), False)
                    self.assertIsNone(same_paper(one, other))


class TestRefusals(unittest.TestCase):
    def test_different_input_alphabets(self):
        pairs = [("a", "b"), ("ab", "abc"), ("ab", "ba"), ("a", "ab"), ("abcde", "abced")]
        for first, second in pairs:
            one, two = identity(first), identity(second)
            for told in (is_same, difference, same_paper):
                for left, right in ((one, two), (two, one)):
                    with self.assertRaises(MachineError) as caught:
                        told(left, right)
                    self.assertEqual(caught.exception.reason, "different input alphabets")
            self.assertIs(is_same_paper(one, two, ([(0, 0)], [(0, 0)])), False)

    def test_equal_outputs_do_not_help(self):
        one = Machine("ab", "x", [[0, 0]], [[0, 0]], [["xx"]])
        two = Machine("ba", "x", [[0, 0]], [[0, 0]], [["xx"]])
        with self.assertRaises(MachineError):
            is_same(one, two)
        self.assertIs(is_same_paper(one, two, ([(0, 0)], [(0, 0)])), False)


class TestPapers(unittest.TestCase):
    def test_own_papers(self):
        for one, two in random_pairs(23, 200):
            paper = same_paper(one, two)
            if paper is None:
                continue
            self.assertIsInstance(paper, tuple)
            self.assertEqual([list, list], [type(side) for side in paper])
            self.assertTrue(all(type(pair) is tuple and len(pair) == 2 for side in paper for pair in side))
            self.assertTrue(helpers.is_right_paper(one, two, paper))
            self.assertIs(is_same_paper(one, two, paper), True)

    def test_large_papers(self):
        one, two = circles("ab")
        paper = same_paper(one, two)
        self.assertEqual([len(side) for side in paper], [1560, 1560])
        self.assertIs(is_same_paper(one, two, paper), True)
        self.assertIs(is_same_paper(one, two, (paper[0][:-1], paper[1])), False)
        self.assertIs(is_same_paper(one, two, (paper[0], paper[1][1:])), False)

    def test_pairs_left_out(self):
        left_out = 0
        for one, two in random_pairs(24, 60):
            paper = same_paper(one, two)
            if paper is None:
                continue
            for side in (0, 1):
                for place in range(len(paper[side])):
                    less = [list(pairs) for pairs in paper]
                    del less[side][place]
                    self.assertIs(is_same_paper(one, two, tuple(less)), False)
                    left_out += 1
        self.assertGreater(left_out, 100)

    def test_all_papers_of_small_machines(self):
        # Each set of pairs on each side: right exactly if point 10 says so.
        source = random.Random(25)
        right = 0
        for _ in range(12):
            one = random_machine(source, "ab", "ab", 2, 1)
            two = shuffled(source, one) if source.random() < 0.5 else random_machine(source, "ab", "ab", 2, 2)
            if source.random() < 0.5:
                one, two = mirror(one), mirror(two)
            lefts = [(i, m) for i in range(len(one.left)) for m in range(len(two.left))]
            rights = [(j, n) for j in range(len(one.right)) for n in range(len(two.right))]
            for _ in range(400):
                paper = tuple([pair for pair in side if source.random() < 0.7] for side in (lefts, rights))
                expected = helpers.is_right_paper(one, two, paper)
                self.assertIs(is_same_paper(one, two, paper), expected)
                right += expected
        self.assertGreater(right, 20)

    def test_pairs_put_in(self):
        one = Machine("a", "ab", [[0], [1]], [[0], [0]], [["a", "b"], ["b", "a"]])
        two = Machine("a", "ab", [[0], [1]], [[0], [0]], [["a", "a"], ["b", "a"]])
        self.assertEqual(same_paper(one, two), ([(0, 0)], [(0, 0)]))
        for paper, expected in (
            (([(0, 0)], [(0, 0)]), True),
            (([(0, 0), (0, 0)], [(0, 0), (0, 0)]), True),
            (([(0, 0), (1, 1)], [(0, 0)]), True),
            (([(1, 1), (0, 0)], [(0, 0)]), True),
            (([(0, 0), (0, 1)], [(0, 0)]), False),
            (([(0, 0), (1, 0)], [(0, 0)]), False),
            (([(0, 0)], [(0, 0), (1, 1)]), False),
            (([(0, 0)], [(0, 0), (0, 1)]), True),
            (([(0, 0)], [(0, 0), (1, 0)]), False),
            (([(0, 0), (1, 1)], [(0, 0), (0, 1)]), False),
        ):
            self.assertIs(is_same_paper(one, two, paper), expected, paper)

    def test_without_the_first_pair(self):
        one = Machine("a", "ab", [[1], [1]], [[0]], [["a"], ["a"]])
        two = Machine("a", "ab", [[1], [1]], [[0]], [["b"], ["a"]])
        self.assertIs(is_same_paper(one, two, ([(1, 1)], [(0, 0)])), False)
        self.assertIs(is_same_paper(mirror(one), mirror(two), ([(0, 0)], [(1, 1)])), False)
        for paper in (([], []), ([(0, 0)], []), ([], [(0, 0)])):
            self.assertIs(is_same_paper(identity("a"), identity("a"), paper), False)

    def test_not_closed(self):
        one = Machine("ab", "ab", [[0, 1], [0, 1]], [[0, 0]], [["ab"], ["ab"]])
        self.assertIs(is_same_paper(one, one, ([(0, 0)], [(0, 0)])), False)
        self.assertIs(is_same_paper(mirror(one), mirror(one), ([(0, 0)], [(0, 0)])), False)
        self.assertIs(is_same_paper(one, one, ([(0, 0), (1, 1)], [(0, 0)])), True)

    def test_states_that_are_not_there(self):
        one = identity("ab")
        for pair in ((0, 1), (1, 0), (-1, 0), (0, -1), (-1, -1), (99, 99), (0, 10 ** 20)):
            self.assertIs(is_same_paper(one, one, ([(0, 0), pair], [(0, 0)])), False)
            self.assertIs(is_same_paper(one, one, ([(0, 0)], [pair, (0, 0)])), False)

    def test_other_kinds(self):
        one = identity("ab")
        good = [(0, 0)]
        for paper in (
            None, 0, "", "ab", [], (), (good,), (good, good, good), (None, good), (good, None), (good, 3), {}, object(),
            (good, "ab"), (good, {(0, 0): True}), ([(0, 0), None], good), (good, [(0, 0), 5]), ([(0, 0), "ab"], good),
            (good, [(0, 0), (0,)]), (good, [(0, 0), (0, 0, 0)]), ([(0, 0), ("a", 0)], good), ([(0, 0), (0, None)], good),
            ([(0, 0), (0, 0.0)], good), ([(0, 0), (False, 0)], good), ([(0, 0), (0, [0])], good),
        ):
            self.assertIs(is_same_paper(one, one, paper), False, repr(paper))


class TestArguments(unittest.TestCase):
    def test_arguments_stay(self):
        for one, two in random_pairs(26, 40):
            before = form(one), form(two)
            is_same(one, two)
            difference(one, two)
            paper = same_paper(one, two) or ([(0, 0)], [(0, 0)])
            kept = ([pair for pair in paper[0]], [pair for pair in paper[1]])
            is_same_paper(one, two, paper)
            self.assertEqual((form(one), form(two)), before)
            self.assertEqual(paper, kept)

    def test_papers_belong_to_the_caller(self):
        one = helpers.both_rules()
        paper = same_paper(one, one)
        kept = (list(paper[0]), list(paper[1]))
        paper[0].append("more")
        paper[1].clear()
        self.assertEqual(same_paper(one, one), kept)
        self.assertIs(is_same_paper(one, one, kept), True)

    def test_later_changes_of_machines(self):
        one = helpers.behind_a()
        other = copied(one)
        paper = same_paper(one, other)
        kept = (list(paper[0]), list(paper[1]))
        other.table[0][0] = "bb"
        self.assertEqual(paper, kept)
        self.assertEqual(difference(one, other), "a")
        self.assertIs(is_same_paper(one, other, paper), False)


if __name__ == "__main__":
    unittest.main()
