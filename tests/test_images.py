import random
import unittest

from foreaft.images import count_preimages, first_preimage, first_with, preimages
from foreaft.machines import Machine, form, identity, mirror, run
from tests import helpers
from tests.helpers import copied, cycle, ladder, random_machine, shuffled, some_machines, words_up_to


def all_preimages(machine, length):
    """For each output of the words of a length these words, in order."""
    found = {}
    for word in words_up_to(machine.reads, length):
        if len(word) == length:
            found.setdefault(run(machine, word), []).append(word)
    return found


def erased(letters="ab"):
    """A machine that writes the first letter everywhere."""
    return Machine(letters, letters, [[0] * len(letters)], [[0] * len(letters)], [[letters[0] * len(letters)]])


class TestPreimages(unittest.TestCase):
    def test_all_short_words(self):
        told = {}
        for machine in some_machines(90, 70):
            for length in range({1: 7, 2: 6, 3: 4}[len(machine.reads)]):
                found = all_preimages(machine, length)
                for word in words_up_to(machine.writes, length):
                    if len(word) < length:
                        continue
                    expected = found.get(word, [])
                    many = len(expected)
                    self.assertEqual(count_preimages(machine, word), many)
                    self.assertEqual(first_preimage(machine, word), expected[0] if expected else None)
                    for most in (0, 1, 2, many, many + 1):
                        self.assertEqual(preimages(machine, word, most), expected[:most])
                    told[min(many, 3)] = told.get(min(many, 3), 0) + 1
        self.assertTrue(all(told[many] > 100 for many in range(4)), told)

    def test_empty_word(self):
        for machine in (identity("ab"), helpers.both_rules(), helpers.behind_a(), erased()):
            self.assertEqual(first_preimage(machine, ""), "")
            self.assertEqual(count_preimages(machine, ""), 1)
            self.assertEqual([preimages(machine, "", most) for most in range(3)], [[], [""], [""]])

    def test_examples(self):
        machine = helpers.behind_a()
        self.assertIsNone(first_preimage(machine, "aa"))
        self.assertEqual(count_preimages(machine, "aa"), 0)
        self.assertEqual(preimages(machine, "aa", 9), [])
        self.assertEqual(preimages(machine, "ab", 9), ["aa", "ab"])
        self.assertEqual(preimages(machine, "abb", 9), ["aaa", "aab", "abb"])
        self.assertEqual(first_preimage(helpers.before_a(), "bba"), "aaa")
        self.assertEqual(preimages(helpers.both_rules(), "adat", 9), ["adad", "adat", "atad", "atat"])
        self.assertEqual(preimages(helpers.sums(), "yyx", 9), ["yxy"])

    def test_most(self):
        machine = erased("cab")
        self.assertEqual(preimages(machine, "cc", 0), [])
        self.assertEqual(preimages(machine, "cc", 1), ["cc"])
        self.assertEqual(preimages(machine, "cc", 4), ["cc", "ca", "cb", "ac"])
        self.assertEqual(len(preimages(machine, "cc", 8)), 8)
        self.assertEqual(len(preimages(machine, "cc", 9)), 9)
        self.assertEqual(len(preimages(machine, "cc", 10 ** 30)), 9)
        self.assertEqual(preimages(machine, "ca", 10 ** 30), [])
        self.assertEqual(preimages(machine, "c" * 50, 3), ["c" * 50, "c" * 49 + "a", "c" * 49 + "b"])

    def test_letters_that_are_never_written(self):
        machine = Machine("ab", "xyz", [[0, 0]], [[0, 0]], [["xx"]])
        for word in ("z", "xz", "zx", "xyx"):
            self.assertIsNone(first_preimage(machine, word))
            self.assertEqual(count_preimages(machine, word), 0)
            self.assertEqual(preimages(machine, word, 5), [])
        self.assertEqual(first_preimage(machine, "xxx"), "aaa")

    def test_long_words_without_preimages(self):
        # Only the last letter shows that there is none; many words write all but this one.
        machine = erased("cab")
        self.assertIsNone(first_preimage(machine, "c" * 300 + "a"))
        self.assertIsNone(first_with(machine, "c" * 300 + "a"))
        machine = Machine("ab", "ab", [[0, 0]], [[1, 1], [1, 1]], [["bb", "aa"]])
        for other in (machine, mirror(machine)):
            self.assertIsNone(first_preimage(other, "a" * 300))
            self.assertIsNone(first_with(other, "a" * 150 + "b" + "a" * 150))
            self.assertEqual(first_with(other, "a" * 300), "a" * 301)

    def test_exact_counts(self):
        for machine in (erased("ab"), shuffled(random.Random(91), erased("ab"))):
            self.assertEqual(count_preimages(machine, "a" * 300), 2 ** 300)
        self.assertEqual(count_preimages(erased("edcba"), "e" * 1000), 5 ** 1000)
        # Words over ab whose output is a b b .. b: a .. a b .. b.
        self.assertEqual(count_preimages(helpers.behind_a(), "a" + "b" * 500), 501)
        self.assertEqual(len(preimages(helpers.behind_a(), "a" + "b" * 500, 1000)), 501)

    def test_long_words(self):
        source = random.Random(92)
        for machine in (identity("ab"), helpers.behind_a(), helpers.before_a(), helpers.voiced_between(), helpers.sums()):
            word = "".join(source.choice(machine.reads) for _ in range(20000))
            output = run(machine, word)
            first = first_preimage(machine, output)
            self.assertEqual(run(machine, first), output)
            self.assertLessEqual([machine.reads.index(letter) for letter in first],
                                 [machine.reads.index(letter) for letter in word])
            found = preimages(machine, output, 3)
            self.assertEqual(found[0], first)
            self.assertTrue(all(run(machine, other) == output for other in found))
        self.assertIsNone(first_preimage(helpers.behind_a(), "ab" * 10000 + "aa"))
        self.assertIsNone(first_preimage(helpers.behind_a(), "aa" + "ab" * 10000))

    def test_large_machines(self):
        source = random.Random(93)
        for writes in ("vwxyz", "xy"):
            machine = random_machine(source, "edcba", writes, 40, 40)
            word = "".join(source.choice("edcba") for _ in range(300))
            output = run(machine, word)
            found = preimages(machine, output, 20)
            self.assertTrue(all(run(machine, other) == output for other in found))
            ranks = [["edcba".index(letter) for letter in other] for other in found]
            self.assertEqual(ranks, sorted(ranks))
            self.assertEqual(len({*found}), len(found))
            self.assertLessEqual(len(found), count_preimages(machine, output))
            if word not in found:
                self.assertEqual(len(found), 20)
                self.assertLess(ranks[-1], ["edcba".index(letter) for letter in word])


    def test_circles(self):
        # The letter behind each 39 letters, counted around, is turned.
        machine = Machine("ab", "ab", cycle(40, 2), cycle(39, 2), [["ab"] * 39] * 39 + [["ba"] * 39])
        self.assertEqual(first_preimage(machine, "a" * 80), "a" * 39 + "b" + "a" * 39 + "b")
        self.assertEqual(count_preimages(machine, "b" * 80), 1)
        self.assertEqual(first_with(machine, "a" * 41), "a" * 39 + "ba")


class TestFirstWith(unittest.TestCase):
    def check(self, machine, piece, length):
        """The first word up to a length that is long enough for all states."""
        expected = next((word for word in words_up_to(machine.reads, length) if piece in run(machine, word)), None)
        self.assertEqual(first_with(machine, piece), expected, (form(machine), piece))
        return expected

    def test_short_pieces(self):
        told = {}
        for machine in some_machines(94, 90):
            states = len(machine.left) + len(machine.right) - 2
            for piece in words_up_to(machine.writes, 3 if len(machine.reads) < 3 else 1):
                if piece != "":
                    found = self.check(machine, piece, states + len(piece))
                    more = None if found is None else len(found) - len(piece)
                    told[more] = told.get(more, 0) + 1
        self.assertTrue(all(told[more] > 10 for more in (None, 0, 1, 2)), told)

    def test_hard_to_reach(self):
        # Most letters are usual; pieces occur only between some states.
        source = random.Random(95)
        longest = 0
        for _ in range(120):
            machine = random_machine(source, source.choice(["ab", "ba"]), "xy", 3, 3)
            parts = helpers.spread(machine)
            parts[4] = [["xx"] * 3 for _ in range(3)]
            for _ in range(2):
                parts[4][source.randrange(3)][source.randrange(3)] = source.choice(["xy", "yx", "yy"])
            machine = Machine(*parts)
            for piece in ("y", "yx", "xy", "yy", "yxy"):
                longest = max(longest, len(self.check(machine, piece, 4 + len(piece)) or ""))
        self.assertGreater(longest, 4)

    def test_examples(self):
        machine = helpers.behind_a()
        for piece, expected in (
            ("a", "a"), ("b", "b"), ("aa", None), ("ab", "aa"), ("ba", "ba"), ("bb", "bb"), ("aba", "aba"), ("abb", "aaa"),
            ("bab", "baa"), ("baa", None),
        ):
            self.assertEqual(first_with(machine, piece), expected)
            self.assertEqual(first_with(shuffled(random.Random(96), machine), piece), expected)
        self.assertEqual(first_with(helpers.both_rules(), "tt"), "td")
        self.assertEqual(first_with(helpers.both_rules(), "da"), "da")
        self.assertEqual(first_with(helpers.voiced_end(), "d"), "da")
        self.assertEqual(first_with(helpers.sums(), "yy"), "yx")

    def test_none_that_occurs(self):
        self.assertIsNone(first_with(Machine("ab", "xyz", [[0, 0]], [[0, 0]], [["xx"]]), "z"))
        self.assertIsNone(first_with(Machine("ab", "xyz", [[0, 0]], [[0, 0]], [["xy"]]), "xyxz"))
        # Only states that no word has would write y.
        machine = Machine("a", "xy", [[0], [1]], [[0], [1]], [["x", "y"], ["y", "y"]])
        self.assertIsNone(first_with(machine, "y"))
        self.assertIsNone(first_with(mirror(machine), "xy"))

    def test_far_away(self):
        for letters in ("a", "ba"):
            machine = ladder(letters)
            usual, other = machine.table[0][0][0], machine.table[39][39][0]
            self.assertEqual(first_with(machine, other), letters[0] * 79)
            self.assertEqual(first_with(machine, other * 5), letters[0] * 83)
            self.assertEqual(first_with(machine, usual * 4), letters[0] * 4)
            self.assertEqual(first_with(machine, usual + other + usual), letters[0] * 79)

    def test_shorter_before_earlier(self):
        # y is written behind aa, or in front of b: "ab" comes before "aaa".
        machine = Machine("ab", "xy", [[1, 0], [2, 0], [2, 0]], [[1, 2], [1, 2], [1, 2]], [
            ["xx", "xx", "yx"], ["xx", "xx", "yx"], ["yx", "yx", "yx"],
        ])
        self.assertEqual(first_with(machine, "y"), "ab")

    def test_equal_lengths_from_both_sides(self):
        # y is written for b behind b and for a in front of a: the piece stands at another place of a word as long.
        machine = Machine("ab", "xy", [[0, 1], [0, 1]], [[1, 0], [1, 0]], [["xx", "yx"], ["xy", "yy"]])
        self.assertEqual(first_with(machine, "y"), "aa")
        machine = Machine("ba", "xy", [[1, 0], [1, 0]], [[0, 1], [0, 1]], [["xx", "xy"], ["yx", "yy"]])
        self.assertEqual(first_with(machine, "y"), "bb")

    def test_whole_outputs(self):
        source = random.Random(97)
        for machine in (identity("ab"), helpers.behind_a(), helpers.before_a(), helpers.voiced_between(), helpers.sums()):
            word = "".join(source.choice(machine.reads) for _ in range(5000))
            piece = run(machine, word)[2:]
            found = first_with(machine, piece)
            self.assertIn(piece, run(machine, found))
            self.assertLessEqual(len(found), len(word))

    def test_large_machines(self):
        source = random.Random(98)
        for writes in ("vwxyz", "xy"):
            machine = random_machine(source, "edcba", writes, 40, 40)
            for length in (1, 2, 5, 100):
                word = "".join(source.choice("edcba") for _ in range(length + 3))
                piece = run(machine, word)[2:length + 2]
                found = first_with(machine, piece)
                self.assertIn(piece, run(machine, found))
                self.assertLessEqual(len(found), len(word))
                shorter = [other for other in words_up_to("edcba", min(len(found) - 1, 4)) if piece in run(machine, other)]
                self.assertEqual(shorter, [])


class TestArguments(unittest.TestCase):
    def test_arguments_stay(self):
        for machine in some_machines(99, 30):
            before = form(machine)
            word = machine.writes * 2
            first_preimage(machine, word)
            count_preimages(machine, word)
            preimages(machine, word, 5)
            first_with(machine, word)
            self.assertEqual(form(machine), before)

    def test_lists_belong_to_the_caller(self):
        machine = copied(helpers.behind_a())
        found = preimages(machine, "ab", 9)
        self.assertIsInstance(found, list)
        found.append("more")
        self.assertEqual(preimages(machine, "ab", 9), ["aa", "ab"])
        machine.table[1][0] = "ab"
        self.assertEqual(found, ["aa", "ab", "more"])
        self.assertEqual(preimages(machine, "ab", 9), ["ab"])


if __name__ == "__main__":
    unittest.main()
