import random
import unittest

from foreaft.least import counts, least
from foreaft.machines import Machine, form, identity, mirror, run, trim
from foreaft.sides import ahead_paper, is_ahead_paper, is_one_sided, look_ahead, look_back
from tests import helpers
from tests.helpers import copied, cycle, ladder, random_machine, shuffled, some_machines, words_up_to

SIZES = ((1, 1), (1, 2), (2, 2), (1, 3), (2, 3))


def end_seen(many, letters="ab"):
    """A machine that writes another letter where fewer than so many letters are behind: its look-ahead is so many."""
    right = [[min(state + 1, many)] * len(letters) for state in range(many + 1)]
    other = letters[::-1] if len(letters) > 1 else "b"
    return Machine(letters, letters if len(letters) > 1 else "ab", [[0] * len(letters)], right, [[letters] * many + [other]])


def second_behind():
    """Each a becomes b if the second letter behind it is an a; its look-ahead is 2."""
    # Right states: the first two letters behind, as far as they are an a: 0 none, 1 the first, 2 the second, 3 both.
    return Machine("ab", "ab", [[0, 0]], [[1, 0], [3, 2], [1, 0], [3, 2]], [["ab", "ab", "bb", "bb"]])


def definite_machines(source, many, rights=3):
    """Machines of which many have a look-ahead of 1 and more."""
    made = []
    for at in range(many):
        machine = random_machine(source, "ab", "ab", 1 + at % 2, rights)
        made.append(helpers.mostly_reset(source, machine))
    return made


class TestOneSided(unittest.TestCase):
    def test_examples(self):
        for machine, left, right in (
            (helpers.behind_a(), True, False), (helpers.before_a(), False, True), (helpers.sums(), True, False),
            (mirror(helpers.sums()), False, True), (helpers.voiced_end(), False, True),
            (helpers.voiced_between(), False, False), (helpers.both_rules(), False, False), (identity("ab"), True, True),
        ):
            for made in (machine, shuffled(random.Random(50), machine)):
                self.assertIs(is_one_sided(made, "left"), left)
                self.assertIs(is_one_sided(made, "right"), right)

    def test_by_outputs(self):
        # From the left: a letter is written the same, whatever is behind it.
        told = {True: 0, False: 0}
        for machine in some_machines(51, 80, SIZES):
            same = all(
                run(machine, front + behind)[:len(front)] == run(machine, front)
                for front in words_up_to(machine.reads, 3) for behind in words_up_to(machine.reads, 2)
            )
            self.assertIs(is_one_sided(machine, "left"), same)
            self.assertIs(is_one_sided(mirror(machine), "right"), same)
            self.assertIs(is_one_sided(machine, "left"), counts(machine)[1] == 1)
            self.assertIs(is_one_sided(machine, "right"), counts(machine)[0] == 1)
            told[same] += 1
        self.assertGreater(min(told.values()), 15)


class TestLookAhead(unittest.TestCase):
    def test_examples(self):
        for machine, ahead, back in (
            (helpers.behind_a(), 0, 1), (helpers.before_a(), 1, 0), (helpers.sums(), 0, None),
            (mirror(helpers.sums()), None, 0), (helpers.voiced_end(), 1, 0), (helpers.voiced_between(), 1, 1),
            (helpers.both_rules(), 1, 1), (identity("abc"), 0, 0), (second_behind(), 2, 0), (mirror(second_behind()), 0, 2),
        ):
            for made in (machine, shuffled(random.Random(52), machine), least(machine)):
                self.assertEqual((look_ahead(made), look_back(made)), (ahead, back))

    def test_by_the_definition(self):
        told = {0: 0, 1: 0, 2: 0, None: 0}
        source = random.Random(53)
        for machine in definite_machines(source, 300):
            ahead = helpers.plain_look_ahead(machine, 4)
            self.assertEqual(look_ahead(machine), ahead, form(machine))
            self.assertEqual(look_back(mirror(machine)), ahead)
            told[ahead] += 1
        self.assertTrue(min(told.values()) > 10, told)

    def test_each_number(self):
        for many in (1, 2, 3, 7, 20, 38, 39):
            for letters in ("a", "ab", "edcba"):
                machine = end_seen(many, letters)
                self.assertEqual((look_ahead(machine), look_back(machine)), (many, 0))
                self.assertEqual((look_ahead(mirror(machine)), look_back(mirror(machine))), (0, many))

    def test_states_that_no_word_has(self):
        # Only right state 0 has a word.
        machine = Machine("a", "ab", [[0]], [[0], [1]], [["a", "b"]])
        self.assertEqual(look_ahead(machine), 0)
        self.assertIsNone(ahead_paper(machine))
        # Right states 0 and 1 are alike between words; left state 1, which has none, would tell them apart.
        machine = Machine("a", "ab", [[0], [0]], [[1], [0]], [["a", "a"], ["a", "b"]])
        self.assertEqual(look_ahead(machine), 0)
        self.assertIsNone(ahead_paper(machine))

    def test_circles(self):
        for many in (2, 3, 39, 40):
            machine = Machine("ab", "ab", [[0, 0]], cycle(many, 2), [["ab"] * (many - 1) + ["bb"]])
            self.assertIsNone(look_ahead(machine))
            self.assertEqual(look_back(machine), 0)
        alike = Machine("ab", "ab", [[0, 0]], cycle(40, 2), [["ab"] * 40])
        self.assertEqual(look_ahead(alike), 0)

    def test_one_pair_that_never_comes_together(self):
        # c and d put all right states together, a leaves them apart for ever.
        right = [[state, 1, 2] for state in range(3)]
        machine = Machine("acd", "acd", [[0, 0, 0]], right, [["acd", "ccd", "cad"]])
        self.assertIsNone(look_ahead(machine))
        # c puts them together, a exchanges 0 and 2.
        machine = Machine("ac", "ac", [[0, 0]], [[2, 1], [2, 1], [0, 1]], [["ac", "cc", "ca"]])
        self.assertIsNone(look_ahead(machine))
        machine = Machine("ac", "ac", [[0, 0]], [[1, 2], [2, 2], [2, 2]], [["ac", "cc", "ca"]])
        self.assertEqual(look_ahead(machine), 2)


class TestPapers(unittest.TestCase):
    def check(self, machine):
        ahead = look_ahead(machine)
        paper = ahead_paper(machine)
        if ahead == 0:
            self.assertIsNone(paper)
            return
        self.assertIsInstance(paper, tuple)
        self.assertEqual(len(paper), 5 if ahead is None else 4)
        if ahead is not None:
            self.assertEqual(len(paper[1]), ahead - 1)
        self.assertTrue(helpers.is_right_ahead_paper(machine, paper), (form(machine), paper))
        self.assertIs(is_ahead_paper(machine, paper), True)

    def test_own_papers(self):
        source = random.Random(54)
        told = {}
        for machine in list(some_machines(55, 100)) + definite_machines(source, 200):
            self.check(machine)
            self.check(shuffled(source, machine))
            told[look_ahead(machine)] = told.get(look_ahead(machine), 0) + 1
        self.assertTrue(all(told[ahead] > 5 for ahead in (None, 0, 1, 2)), told)

    def test_more_right_states(self):
        told = {}
        for rights in (4, 5, 6, 7):
            for machine in definite_machines(random.Random(62), 300, rights):
                self.check(machine)
                told[look_ahead(machine)] = told.get(look_ahead(machine), 0) + 1
        self.assertTrue(all(told[ahead] > 10 for ahead in (None, 0, 1, 2, 3)), told)

    def test_examples(self):
        for machine in (
            helpers.behind_a(), helpers.before_a(), helpers.sums(), mirror(helpers.sums()), helpers.both_rules(),
            second_behind(), identity("ab"), ladder("ab", 5, 6), mirror(ladder("ba", 3, 2)),
        ):
            self.check(machine)
            self.check(shuffled(random.Random(56), machine))

    def test_point_35(self):
        self.assertIs(is_ahead_paper(mirror(helpers.behind_a()), ("a", "", "a", "b")), True)
        self.assertIs(is_ahead_paper(helpers.behind_a(), ("a", "", "a", "b")), False)
        self.assertIs(is_ahead_paper(mirror(helpers.sums()), ("x", "", "x", "x", "y")), True)
        self.assertIs(is_ahead_paper(helpers.sums(), ("x", "", "x", "x", "y")), False)

    def test_each_number(self):
        for many in (1, 2, 38, 39):
            machine = end_seen(many)
            self.check(machine)
            paper = ahead_paper(machine)
            self.assertIs(is_ahead_paper(machine, (paper[0], paper[1] + "a", paper[2], paper[3])), False)
        self.check(ladder("cab"))
        self.assertEqual(look_ahead(ladder("cab")), 39)

    def test_large_circles(self):
        # Two circles of right states, 19 and 20 long, that are entered by c and by d.
        right = [[1, 1, 20]] + [[state + 1 if state < 19 else 1, 1, 20] for state in range(1, 20)]
        right += [[state + 1 if state < 39 else 20, 1, 20] for state in range(20, 40)]
        written = ["cad"] * 40
        written[19] = written[39] = "add"
        machine = Machine("acd", "acd", [[0, 0, 0]], right, [written])
        self.assertIsNone(look_ahead(machine))
        self.check(machine)
        self.check(random_machine(random.Random(57), "edcba", "vwxyz", 40, 40))

    def test_all_papers_of_small_words(self):
        told = {(4, True): 0, (4, False): 0, (5, True): 0, (5, False): 0}
        machines = [helpers.before_a(), mirror(helpers.sums()), shuffled(random.Random(58), mirror(helpers.sums()))]
        for machine in machines + list(some_machines(59, 12, SIZES)) + [second_behind()]:
            words = list(words_up_to(machine.reads, 2 if len(machine.reads) < 3 else 1))
            source = random.Random(60)
            for _ in range(300):
                for length in (4, 5):
                    paper = tuple(source.choice(words) for _ in range(length))
                    expected = helpers.is_right_ahead_paper(machine, paper)
                    self.assertIs(is_ahead_paper(machine, paper), expected, (form(machine), paper))
                    told[(length, expected)] += 1
        self.assertGreater(min(told.values()), 50)

    def test_states_of_the_machine_itself_go_around(self):
        # All states but 0 are alike, in a circle of two: aa leads back to a state, a only to one that is alike.
        machine = Machine("ab", "ab", [[0, 0]], [[1, 0], [2, 1], [1, 2]], [["ab", "bb", "bb"]])
        self.assertIsNone(look_ahead(machine))
        self.assertEqual(len(least(machine).right), 2)
        self.assertIs(is_ahead_paper(machine, ("a", "", "b", "", "a")), True)
        self.assertIs(is_ahead_paper(least(machine), ("a", "", "b", "", "aa")), True)
        machine = Machine("ab", "ab", [[0, 0]], [[1, 0], [2, 2], [1, 1]], [["ab", "bb", "bb"]])
        self.assertIs(is_ahead_paper(machine, ("a", "", "b", "", "a")), False)
        self.assertIs(is_ahead_paper(machine, ("a", "", "bb", "", "a")), True)
        self.assertIs(is_ahead_paper(least(machine), ("a", "", "b", "", "a")), True)
        self.check(machine)

    def test_not_around(self):
        machine = mirror(helpers.sums())
        self.assertIs(is_ahead_paper(machine, ("x", "", "", "x", "y")), False)
        self.assertIs(is_ahead_paper(machine, ("x", "", "y", "x", "y")), False)
        self.assertIs(is_ahead_paper(machine, ("x", "", "yy", "x", "y")), True)
        self.assertIs(is_ahead_paper(machine, ("x", "yx", "yxy", "x", "y")), True)
        self.assertIs(is_ahead_paper(machine, ("", "", "x", "x", "y")), False)
        self.assertIs(is_ahead_paper(machine, ("x", "", "x", "y", "y")), False)
        # Only one of both words is led back.
        machine = Machine("ab", "ab", [[0, 0]], [[1, 1], [1, 1]], [["ab", "bb"]])
        self.assertIs(is_ahead_paper(machine, ("a", "", "a", "")), True)
        self.assertIs(is_ahead_paper(machine, ("a", "", "a", "a", "")), False)
        self.assertIs(is_ahead_paper(machine, ("a", "", "a", "", "a")), False)

    def test_changed_words(self):
        machine = second_behind()
        self.assertEqual(look_ahead(machine), 2)
        self.assertIs(is_ahead_paper(machine, ("a", "b", "a", "b")), True)
        for paper in (
            ("b", "b", "a", "b"), ("", "b", "a", "b"), ("a", "bb", "a", "b"), ("a", "b", "a", "aa"), ("a", "b", "b", "bb"),
            ("a", "b", "b", "b", "a"), ("a", "a", "b", "b"),
        ):
            self.assertIs(is_ahead_paper(machine, paper), False, paper)

    def test_other_kinds(self):
        machine = helpers.before_a()
        good = ("a", "", "a", "b")
        self.assertIs(is_ahead_paper(machine, good), True)
        for paper in (
            None, 0, "", "aabb", [], (), list(good), good[:3], good + ("a", "b"), (None,) * 4, (None,) * 5, {}, object(),
            ("a", None, "a", "b"), (b"a", "", "a", "b"), ("a", "", ["a"], "b"), ("a", "", "a", 0), ("a", "", "a", ("b",)),
            ("a", "", None, "a", "b"), ("a", "", 0, "a", "b"), ("a", "", "a", "c"), ("c", "", "a", "b"),
            ("a", "c", "a", "b"), ("a", "", "c", "b"), ("a", "", "a", "B"), ("a", "", "a", " "), ("a", "", "c", "a", "b"),
            ("a", "", "", "a", "b"),
        ):
            self.assertIs(is_ahead_paper(machine, paper), False, repr(paper))

    def test_long_words(self):
        machine = mirror(helpers.sums())
        long = "yx" * 50000
        self.assertIs(is_ahead_paper(machine, (long, long, long, long, long + "y")), True)
        self.assertIs(is_ahead_paper(machine, (long, long, long, long, long + "x")), False)
        self.assertIs(is_ahead_paper(machine, (long, long, long + "y", long, long + "y")), False)


class TestArguments(unittest.TestCase):
    def test_arguments_stay(self):
        for machine in some_machines(61, 30):
            before = form(machine)
            is_one_sided(machine, "left")
            is_one_sided(machine, "right")
            look_ahead(machine)
            look_back(machine)
            paper = ahead_paper(machine)
            is_ahead_paper(machine, paper)
            self.assertEqual(form(machine), before)

    def test_later_changes_of_machines(self):
        machine = copied(helpers.before_a())
        paper = ahead_paper(machine)
        machine.table[0][1] = "ab"
        self.assertEqual(look_ahead(machine), 0)
        self.assertIs(is_ahead_paper(machine, paper), False)
        self.assertEqual(look_ahead(trim(helpers.before_a())), 1)


if __name__ == "__main__":
    unittest.main()
