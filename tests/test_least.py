import random
import unittest

from foreaft.compare import is_same
from foreaft.least import counts, is_least, is_least_paper, least, least_paper, separator
from foreaft.machines import Machine, form, identity, mirror, run, trim
from tests import helpers
from tests.helpers import copied, cycle, ladder, random_machine, shuffled, some_machines, words_up_to


def distinguished(machine, length):
    """How many words up to a length have different futures: the letters behind them, with all that can follow."""
    words = list(words_up_to(machine.reads, length))
    futures = set()
    for front in words:
        futures.add(tuple(run(machine, front + rest)[len(front):] for rest in words_up_to(machine.reads, 2 * length + 1)))
    return len(futures)


class TestLeast(unittest.TestCase):
    def test_by_the_definition(self):
        smaller = 0
        for machine in some_machines(30, 140):
            made = least(machine)
            self.assertEqual(form(made), form(helpers.plain_least(machine)))
            self.assertIs(is_least(machine), form(machine) == form(made))
            self.assertIs(is_least(made), True)
            self.assertEqual(counts(machine), (len(made.left), len(made.right)))
            smaller += counts(machine) != (len(trim(machine).left), len(trim(machine).right))
        self.assertGreater(smaller, 20)

    def test_no_fewer_states(self):
        # Words with different futures (for some word behind them) need different left states.
        for machine in some_machines(31, 60, ((2, 1), (2, 2), (1, 2))):
            if len(machine.reads) > 2:
                continue
            lefts, rights = counts(machine)
            self.assertEqual(distinguished(machine, 1), lefts)
            self.assertEqual(distinguished(mirror(machine), 1), rights)

    def test_same_exactly_if_least_are_equal(self):
        source = random.Random(32)
        told = {True: 0, False: 0}
        for machine in some_machines(33, 60):
            for other in (
                shuffled(source, machine), copied(machine), least(machine),
                random_machine(source, machine.reads, machine.writes, 2, 2), helpers.mostly_alike(source, machine),
            ):
                equal = form(least(machine)) == form(least(other))
                self.assertIs(is_same(machine, other), equal)
                told[equal] += 1
        self.assertGreater(min(told.values()), 50)

    def test_order_of_the_classes(self):
        # First words: 0 "", 1 a, 2 b, 3 aa; 1 is alike 3, so its class comes in front of that of 2.
        left = [[1, 2], [3, 0], [2, 2], [3, 0]]
        machine = Machine("ab", "ab", left, [[0, 0]], [["aa"], ["bb"], ["ab"], ["bb"]])
        made = least(machine)
        self.assertEqual(made.left, [[1, 2], [1, 0], [2, 2]])
        self.assertEqual(made.table, [["aa"], ["bb"], ["ab"]])
        # Now 0 is alike 2, and 3 is alone: it has the first word aa.
        left = [[1, 2], [3, 0], [1, 0], [3, 0]]
        machine = Machine("ab", "ab", left, [[0, 0]], [["aa"], ["bb"], ["aa"], ["ab"]])
        made = least(machine)
        self.assertEqual(made.left, [[1, 0], [2, 0], [2, 0]])
        self.assertEqual(made.table, [["aa"], ["bb"], ["ab"]])

    def test_order_of_the_right_classes(self):
        # First words of right states: 1 a, 2 b, 4 ab (read b, a), 3 ba; 2 and 3 are alike.
        right = [[1, 2], [1, 3], [4, 3], [4, 3], [0, 0]]
        machine = Machine("ab", "abcd", [[0, 0]], right, [["aa", "bb", "cc", "cc", "dd"]])
        self.assertEqual(form(least(machine)), (
            "ab", "abcd", ((0, 0),), ((1, 2), (1, 2), (3, 2), (0, 0)), (("aa", "bb", "cc", "dd"),),
        ))

    def test_states_that_no_word_has_do_not_tell(self):
        # The left states are alike between words; right state 1, which no word has, would tell them apart.
        machine = Machine("a", "ab", [[1], [0]], [[0], [0]], [["a", "a"], ["a", "b"]])
        self.assertEqual(form(least(machine)), ("a", "ab", ((0,),), ((0,),), (("a",),)))
        self.assertEqual(form(least(mirror(machine))), ("a", "ab", ((0,),), ((0,),), (("a",),)))

    def test_least_already(self):
        for machine in (
            helpers.voiced_end(), helpers.voiced_between(), helpers.both_rules(), helpers.behind_a(),
            helpers.before_a(), helpers.sums(), identity("a"), identity("edcba"),
        ):
            self.assertEqual(form(least(machine)), form(machine))
            self.assertIs(is_least(machine), True)
            self.assertEqual(counts(machine), (len(machine.left), len(machine.right)))

    def test_as_many_states_in_another_order(self):
        machine = Machine("ab", "ab", [[2, 1], [0, 0], [0, 0]], [[0, 0]], [["aa"], ["ab"], ["ba"]])
        self.assertEqual(counts(machine), (3, 1))
        self.assertIs(is_least(machine), False)
        self.assertIs(is_least(trim(machine)), True)
        self.assertIs(is_least(mirror(machine)), False)

    def test_alphabets_stay(self):
        machine = Machine("cab", "zxy", [[0] * 3] * 2, [[1] * 3, [0] * 3], [["xxx", "xxx"], ["yyy", "zzz"]])
        self.assertEqual(form(least(machine)), ("cab", "zxy", ((0, 0, 0),), ((0, 0, 0),), (("xxx",),)))

    def test_one_state(self):
        for written in ("ab", "ba", "aa"):
            machine = Machine("ab", "ab", [[0, 0]], [[0, 0]], [[written]])
            self.assertEqual(form(least(machine)), form(machine))
            many = Machine("ab", "ab", cycle(40, 2), cycle(39, 2), [[written] * 39] * 40)
            self.assertEqual(form(least(many)), form(machine))
            self.assertEqual(counts(many), (1, 1))
            self.assertIs(is_least(many), False)

    def test_large_machines(self):
        machine = ladder("ba")
        self.assertEqual(form(least(machine)), form(machine))
        parts = helpers.spread(machine)
        parts[4][39][39] = parts[4][0][0]
        self.assertEqual(counts(Machine(*parts)), (1, 1))
        source = random.Random(34)
        machine = random_machine(source, "edcba", "vwxyz", 20, 20)
        self.assertEqual(form(least(shuffled(source, machine))), form(least(machine)))

    def test_only_told_apart_late(self):
        # A circle with one other letter at its end: states differ by how far the end is.
        machine = Machine("a", "ab", cycle(40, 1), [[0]], [["a"]] * 39 + [["b"]])
        self.assertEqual(counts(machine), (40, 1))
        self.assertEqual(counts(mirror(machine)), (1, 40))
        half = Machine("a", "ab", cycle(40, 1), [[0]], ([["a"]] * 19 + [["b"]]) * 2)
        self.assertEqual(counts(half), (20, 1))
        self.assertEqual(form(least(half)), ("a", "ab", tuple(tuple(row) for row in cycle(20, 1)), ((0,),), (
            (("a",),) * 19 + (("b",),)
        )))


class TestSeparators(unittest.TestCase):
    def check_all(self, machine, length):
        told = 0
        for side, rows in (("left", machine.left), ("right", machine.right)):
            for one in range(len(rows)):
                for two in range(len(rows)):
                    first = helpers.plain_separator(machine, side, one, two, length)
                    self.assertEqual(separator(machine, side, one, two), first, (form(machine), side, one, two))
                    told += first is not None
        return told

    def test_by_the_definition(self):
        told = 0
        for machine in some_machines(35, 90):
            told += self.check_all(machine, len(machine.left) + len(machine.right) - 1)
        self.assertGreater(told, 100)

    def test_more_letters(self):
        source = random.Random(36)
        for _ in range(8):
            machine = random_machine(source, "dbca", "ab", 2, 2)
            self.check_all(helpers.mostly_alike(source, machine), 3)

    def test_equal_states(self):
        for machine in (helpers.both_rules(), helpers.behind_a(), identity("ab")):
            for state in range(len(machine.left)):
                self.assertIsNone(separator(machine, "left", state, state))
            for state in range(len(machine.right)):
                self.assertIsNone(separator(machine, "right", state, state))

    def test_both_rules(self):
        machine = helpers.both_rules()
        self.assertEqual(separator(machine, "left", 0, 1), "ta")
        self.assertEqual(separator(machine, "right", 0, 1), "d")
        self.assertEqual(separator(machine, "right", 0, 2), "d")
        self.assertEqual(separator(machine, "right", 2, 1), "at")

    def test_states_that_no_word_has(self):
        # Left states 1 and 2 have no words; only right state 0 has one.
        machine = Machine("a", "ab", [[0], [1], [1]], [[0], [0]], [["a", "a"], ["b", "a"], ["b", "b"]])
        self.assertEqual(separator(machine, "left", 0, 1), "a")
        self.assertEqual(separator(machine, "left", 2, 0), "a")
        self.assertIsNone(separator(machine, "left", 1, 2))
        self.assertIsNone(separator(machine, "right", 0, 1))
        machine = mirror(machine)
        self.assertEqual(separator(machine, "right", 1, 0), "a")
        self.assertIsNone(separator(machine, "right", 2, 1))
        self.assertIsNone(separator(machine, "left", 1, 0))

    def test_long_separators(self):
        # 39 letters in front and 39 behind are needed.
        for letters in ("a", "ba"):
            machine = ladder(letters)
            for side in ("left", "right"):
                self.assertEqual(separator(machine, side, 0, 1), letters[0] * 78)
                self.assertEqual(separator(machine, side, 38, 37), letters[0] * 41)
                self.assertEqual(separator(machine, side, 39, 5), letters[0] * 40)

    def test_later_than_the_shortest_way(self):
        # a leads left state 1 to where b is written at once; that it is written behind b already is earlier.
        machine = Machine("ab", "ab", [[0, 0], [2, 0], [2, 2]], [[0, 0]], [["aa"], ["aa"], ["ba"]])
        self.assertEqual(separator(machine, "left", 0, 1), "aa")
        machine = Machine("ab", "ab", [[0, 0], [2, 2], [2, 2]], [[0, 0]], [["aa"], ["ab"], ["ba"]])
        self.assertEqual(separator(machine, "left", 0, 1), "b")
        machine = Machine("ab", "ab", [[0, 0]], [[0, 0], [2, 2], [2, 2]], [["aa", "aa", "ab"]])
        self.assertEqual(separator(machine, "right", 0, 1), "ba")


class TestPapers(unittest.TestCase):
    def test_own_papers(self):
        papers = 0
        for machine in list(some_machines(37, 80)) + [least(machine) for machine in some_machines(38, 80)]:
            paper = least_paper(machine)
            full = counts(machine) == (len(machine.left), len(machine.right))
            self.assertIs(paper is not None, full)
            if paper is None:
                continue
            self.assertIsInstance(paper, tuple)
            self.assertEqual([list] * 4, [type(words) for words in paper])
            self.assertTrue(helpers.is_right_least_paper(machine, paper), (form(machine), paper))
            self.assertIs(is_least_paper(machine, paper), True)
            papers += len(machine.left) > 2 or len(machine.right) > 2
        self.assertGreater(papers, 20)

    def test_of_another_order(self):
        machine = Machine("ab", "ab", [[2, 1], [0, 0], [0, 0]], [[0, 0]], [["aa"], ["ab"], ["ba"]])
        paper = least_paper(machine)
        self.assertEqual(paper[:2], (["", "b", "a"], [""]))
        self.assertIs(is_least_paper(machine, paper), True)
        self.assertIs(is_least_paper(trim(machine), paper), False)

    def test_of_one_state(self):
        self.assertEqual(least_paper(identity("ab")), ([""], [""], [], []))
        self.assertIs(is_least_paper(identity("ab"), (["abba"], ["b"], [], [])), True)
        self.assertIs(is_least_paper(identity("ab"), (["abba"], ["b"], [], ["a"])), False)
        self.assertIs(is_least_paper(identity("ab"), (["abba"], [], [], [])), False)
        self.assertIs(is_least_paper(identity("ab"), (["abba", "a"], ["b"], [], [])), False)

    def test_order_of_the_pairs(self):
        # Only aab tells 0 and 1 apart, and so on: each pair has other separators.
        machine = Machine("abc", "xy", [[1, 2, 3], [3, 3, 3], [3, 3, 3], [3, 3, 3]], [[0] * 3], [
            ["xxx"], ["yxx"], ["xyx"], ["xxy"],
        ])
        pairs = [(0, 1), (0, 2), (1, 2), (0, 3), (1, 3), (2, 3)]
        words = [separator(machine, "left", one, two) for one, two in pairs]
        self.assertEqual(words, ["a", "b", "a", "c", "a", "b"])
        paper = (["", "a", "b", "c"], [""], words, [])
        self.assertIs(is_least_paper(machine, paper), True)
        turned = mirror(machine)
        self.assertIs(is_least_paper(turned, ([""], ["", "a", "b", "c"], [], words)), True)
        for place in range(6):
            for letter in "abc":
                other = words[:place] + [letter] + words[place + 1:]
                expected = helpers.is_right_least_paper(machine, (["", "a", "b", "c"], [""], other, []))
                self.assertIs(is_least_paper(machine, (["", "a", "b", "c"], [""], other, [])), expected)
                self.assertIs(is_least_paper(turned, ([""], ["", "a", "b", "c"], [], other)), expected)

    def test_changed_papers(self):
        source = random.Random(39)
        told = {True: 0, False: 0}
        for machine in [helpers.both_rules(), helpers.voiced_between()] + list(some_machines(40, 60)):
            paper = least_paper(machine)
            for _ in range(20 if paper is not None else 0):
                changed = [list(words) for words in paper]
                words = changed[source.choice([k for k in range(4) if changed[k]])]
                place = source.randrange(len(words))
                words[place] = "".join(source.choice(machine.reads) for _ in range(source.randint(0, 3)))
                expected = helpers.is_right_least_paper(machine, changed)
                self.assertIs(is_least_paper(machine, tuple(changed)), expected)
                told[expected] += 1
        self.assertGreater(min(told.values()), 100)

    def test_left_out_and_put_in(self):
        for machine in (helpers.both_rules(), helpers.voiced_between(), helpers.sums(), mirror(helpers.both_rules())):
            paper = least_paper(machine)
            for part in range(4):
                for place in range(len(paper[part])):
                    for cut in (0, 1):
                        less = [list(words) for words in paper]
                        less[part][place:place + 1] = [less[part][place]] * 2 * cut
                        self.assertIs(is_least_paper(machine, tuple(less)), False)
                more = [list(words) for words in paper]
                more[part].append(machine.reads)
                self.assertIs(is_least_paper(machine, tuple(more)), False)

    def test_of_machines_with_more_states(self):
        source = random.Random(41)
        machine = shuffled(source, helpers.both_rules())
        self.assertIsNone(least_paper(machine))
        self.assertIs(is_least_paper(machine, least_paper(helpers.both_rules())), False)
        # A state too many on one side only, alike another one or without a word.
        for left, table in (
            ([[1, 0], [2, 0], [1, 0]], [["ab"], ["bb"], ["bb"]]), ([[1, 0], [1, 0], [0, 0]], [["ab"], ["bb"], ["aa"]]),
        ):
            machine = Machine("ab", "ab", left, [[0, 0]], table)
            self.assertIsNone(least_paper(machine))
            self.assertIsNone(least_paper(mirror(machine)))
            for last in words_up_to("ab", 3):
                paper = (["", "a", "aa"], [""], ["a", "a", last], [])
                self.assertIs(is_least_paper(machine, paper), False)

    def test_other_kinds(self):
        machine = helpers.behind_a()
        good = least_paper(machine)
        self.assertEqual(good, (["", "a"], [""], ["a"], []))
        for paper in (
            None, 0, "", "abcd", [], (), list(good), good[:3], good + ([],), (None,) * 4, {}, object(), (["", "a"],),
            (("", "a"), [""], ["a"], []), (["", "a"], "", ["a"], []), (["", "a"], [""], "a", []),
            (["", "a"], [""], ["a"], None), (["", "a"], [""], ["a"], ""), (["", "a"], [""], ["a"], {}),
            ([None, "a"], [""], ["a"], []), (["", "a"], [0], ["a"], []), (["", "a"], [""], [None], []),
            (["", "a"], [""], [["a"]], []), ([b"", "a"], [""], ["a"], []), (["", ("a",)], [""], ["a"], []),
            (["", "c"], [""], ["a"], []), (["", "ca"], [""], ["a"], []), (["", "a"], ["c"], ["a"], []),
            (["", "a"], [""], ["ca"], []), (["", "a"], [""], ["A"], []), (["", "a"], [""], ["a "], []),
        ):
            self.assertIs(is_least_paper(machine, paper), False, repr(paper))
        self.assertIs(is_least_paper(machine, (["bb", "aba"], ["abab"], ["ab"], [])), True)

    def test_large_papers(self):
        machine = ladder("ba")
        paper = least_paper(machine)
        self.assertEqual([len(words) for words in paper], [40, 40, 780, 780])
        self.assertIs(is_least_paper(machine, paper), True)
        for part, place in ((0, 39), (1, 1), (2, 779), (2, 0), (3, 400)):
            changed = [list(words) for words in paper]
            changed[part][place] = ""
            self.assertIs(is_least_paper(machine, tuple(changed)), False)
        machine = random_machine(random.Random(42), "edcba", "vwxyz", 40, 39)
        made = least(machine)
        self.assertIs(is_least_paper(made, least_paper(made)), True)

    def test_long_words(self):
        machine = helpers.sums()
        paper = (["x" * 50000, "xy" * 50001], [""], ["y" * 50000], [])
        self.assertIs(is_least_paper(machine, paper), True)
        paper[0][1] = "xy" * 50000
        self.assertIs(is_least_paper(machine, paper), False)


class TestArguments(unittest.TestCase):
    def test_arguments_stay(self):
        for machine in some_machines(43, 30):
            before = form(machine)
            made = least(machine)
            is_least(machine)
            counts(machine)
            separator(machine, "left", 0, len(machine.left) - 1)
            separator(machine, "right", 0, len(machine.right) - 1)
            least_paper(machine)
            paper = least_paper(made)
            kept = [list(words) for words in paper]
            is_least_paper(machine, paper)
            is_least_paper(made, paper)
            self.assertEqual(form(machine), before)
            self.assertEqual([list(words) for words in paper], kept)

    def test_results_are_apart(self):
        for machine in (helpers.both_rules(), helpers.sums(), identity("ab")):
            before = form(machine)
            made = least(machine)
            for rows in (made.left, made.right, made.table):
                rows[0][0] = "spoiled"
                rows[-1].append("more")
                rows.append("more")
            self.assertEqual(form(machine), before)
            self.assertEqual(form(least(machine)), before)
            paper = least_paper(machine)
            kept = [list(words) for words in paper]
            for words in paper:
                words.append("more")
            self.assertEqual([list(words) for words in least_paper(machine)], kept)

    def test_later_changes_of_machines(self):
        machine = copied(helpers.both_rules())
        made = least(machine)
        paper = least_paper(machine)
        kept = [list(words) for words in paper]
        machine.table[1][1] = "att"
        machine.left[0][0] = 0
        self.assertEqual(form(made), form(helpers.both_rules()))
        self.assertEqual([list(words) for words in paper], kept)
        self.assertEqual(counts(machine), (1, 2))
        self.assertIs(is_least_paper(machine, paper), False)


if __name__ == "__main__":
    unittest.main()
