import random
import unittest

from foreaft.errors import ForeaftError, MachineError
from foreaft.machines import (
    Machine, form, identity, left_state, mirror, output_between, recode, right_state, run, states_of, trim,
)
from tests import helpers
from tests.helpers import random_machine, words_up_to


def some_machines(seed, many):
    """Small machines over alphabets of 1 to 5 letters."""
    source = random.Random(seed)
    alphabets = ["a", "z", "ab", "ba", "tad", "dcba", "edcba", "vwxyz"]
    machines = []
    for _ in range(many):
        reads, writes = source.choice(alphabets), source.choice(alphabets)
        machines.append(random_machine(source, reads, writes, source.randint(1, 5), source.randint(1, 5)))
    return machines


def depth(machine):
    """A length up to which the words of a machine are still few."""
    return {1: 8, 2: 6, 3: 4, 4: 4, 5: 3}[len(machine.reads)]


class TestMachine(unittest.TestCase):
    def refused(self, *parts):
        with self.assertRaises(MachineError) as caught:
            Machine(*parts)
        self.assertEqual(caught.exception.reason, "not a machine")
        self.assertIsInstance(caught.exception, ForeaftError)

    def parts(self):
        """Two letters in, three out, two left states, three right states."""
        return ["ab", "xyz", [[1, 0], [0, 1]], [[0, 1], [2, 2], [1, 0]], [["xy", "yz", "zx"], ["xx", "yy", "zz"]]]

    def spoiled(self, index, thing):
        parts = self.parts()
        parts[index] = thing
        self.refused(*parts)

    def test_fields(self):
        machine = Machine(*self.parts())
        self.assertEqual([machine.reads, machine.writes, machine.left, machine.right, machine.table], self.parts())
        reads, writes, left, right, table = self.parts()
        machine = Machine(table=table, right=right, left=left, writes=writes, reads=reads)
        self.assertEqual([machine.reads, machine.writes, machine.left, machine.right, machine.table], self.parts())

    def test_small_and_large(self):
        Machine("a", "a", [[0]], [[0]], [["a"]])
        for lefts, rights in ((1, 40), (40, 1), (40, 40)):
            for reads, writes in (("a", "edcba"), ("edcba", "a"), ("abcde", "vwxyz")):
                machine = random_machine(random.Random(1), reads, writes, lefts, rights)
                self.assertEqual((len(machine.left), len(machine.right)), (lefts, rights))

    def test_too_many_states(self):
        for lefts, rights in ((41, 1), (1, 41), (41, 41)):
            left = [[0] for _ in range(lefts)]
            right = [[0] for _ in range(rights)]
            self.refused("a", "a", left, right, [["a"] * rights for _ in range(lefts)])

    def test_no_states(self):
        self.refused("a", "a", [], [[0]], [])
        self.refused("a", "a", [[0]], [], [[]])
        self.refused("a", "a", [], [], [])

    def test_alphabets(self):
        for thing in (
            "", "aa", "abcdef", "AB", "a ", None, 2, True, b"ab", ["a", "b"], ("a", "b"), {"a": 0, "b": 1}, object(),
        ):
            self.spoiled(0, thing)
            self.spoiled(1, thing)
        self.spoiled(0, "a")
        self.spoiled(0, "abc")
        self.spoiled(1, "xy")
        self.spoiled(1, "abc")

    def test_six_letters(self):
        self.refused("abcdef", "a", [[0] * 6], [[0] * 6], [["aaaaaa"]])
        self.refused("a", "abcdef", [[0]], [[0]], [["a"]])

    def test_state_rows(self):
        for index, many in ((2, 2), (3, 3)):
            for row in range(many):
                for bad in (
                    [], [0], [0, 0, 0], None, 0, "00", (0, 0), {0: 0, 1: 0}, b"ab",
                    [0, many], [many, 0], [-1, 0], [0, -1], [0, 99], [0, None], [0, "0"], ["a", 0], [0, 1.0],
                    [0, True], [False, 0], [0, [0]], [0, 10 ** 30],
                ):
                    parts = self.parts()
                    parts[index][row] = bad
                    self.refused(*parts)

    def test_state_lists(self):
        for index in (2, 3):
            for bad in (None, 0, True, "ab", {}, object(), 2.0, [None], [0, 0], "", ()):
                self.spoiled(index, bad)
            self.spoiled(index, tuple(self.parts()[index]))
            self.spoiled(index, dict(enumerate(self.parts()[index])))
            self.spoiled(index, self.parts()[index][:-1])
            self.spoiled(index, self.parts()[index] + [[0, 0]])

    def test_states_of_the_other_side(self):
        self.refused("a", "a", [[1]], [[0], [0]], [["a", "a"]])
        self.refused("a", "a", [[0], [0]], [[1]], [["a"], ["a"]])

    def test_table(self):
        for bad in (None, 0, "xy", {}, object(), [], [[]], [[], []], [["xy"], ["xy"]], [["xy"] * 3], [["xy"] * 3] * 3):
            self.spoiled(4, bad)
        self.spoiled(4, tuple(self.parts()[4]))
        self.spoiled(4, [tuple(row) for row in self.parts()[4]])
        self.spoiled(4, [["xy"] * 2] * 3)
        for row in range(2):
            for bad in (None, 0, "xyz", ("xy", "yz", "zx"), {}, [], ["xy"] * 2, ["xy"] * 4):
                parts = self.parts()
                parts[4][row] = bad
                self.refused(*parts)
            for column in range(3):
                for bad in ("", "x", "xyx", "xa", "ax", "Xy", "x ", None, 0, True, b"xy", ["x", "y"], ("x", "y"), [0, 1]):
                    parts = self.parts()
                    parts[4][row][column] = bad
                    self.refused(*parts)

    def test_a_string_is_no_row(self):
        self.refused("a", "xy", [[0]], [[0], [0]], ["xy"])

    def test_a_row_within_itself(self):
        rows = []
        rows.append(rows)
        self.refused("a", "a", rows, [[0]], [["a"]])
        self.refused("a", "a", [[0]], [[0]], [rows])

    def test_own_copies(self):
        parts = self.parts()
        machine = Machine(*parts)
        for index in (2, 3, 4):
            parts[index][0][0] = "spoiled"
            parts[index][1].append("more")
            parts[index].append("more")
        self.assertEqual(form(machine), form(Machine(*self.parts())))

    def test_rows_that_are_one_list(self):
        row, written = [0, 0], ["ab", "ab"]
        machine = Machine("ab", "ab", [row, row], [row, row], [written, written])
        machine.left[0][0] = 1
        machine.table[0][0] = "ba"
        self.assertEqual(machine.left, [[1, 0], [0, 0]])
        self.assertEqual(machine.right, [[0, 0], [0, 0]])
        self.assertEqual(machine.table, [["ba", "ab"], ["ab", "ab"]])

    def test_arguments_stay(self):
        parts = self.parts()
        Machine(*parts)
        self.assertEqual(parts, self.parts())

    def test_form(self):
        machine = Machine(*self.parts())
        self.assertEqual(form(machine), (
            "ab", "xyz", ((1, 0), (0, 1)), ((0, 1), (2, 2), (1, 0)), (("xy", "yz", "zx"), ("xx", "yy", "zz")),
        ))
        self.assertIsInstance(form(machine), tuple)
        for part in form(machine)[2:]:
            self.assertIsInstance(part, tuple)
            for row in part:
                self.assertIsInstance(row, tuple)
        kept = form(machine)
        machine.left[0][0] = 0
        self.assertEqual(kept, form(Machine(*self.parts())))
        self.assertNotEqual(kept, form(machine))

    def test_form_tells_each_part(self):
        base = form(Machine(*self.parts()))
        for index, thing in (
            (0, "ba"), (1, "xzy"), (2, [[1, 0], [0, 0]]), (3, [[0, 1], [2, 2], [1, 1]]),
            (4, [["xy", "yz", "zx"], ["xx", "yy", "zx"]]),
        ):
            parts = self.parts()
            parts[index] = thing
            self.assertNotEqual(form(Machine(*parts)), base)


class TestRuns(unittest.TestCase):
    def test_examples(self):
        self.assertEqual(run(helpers.voiced_end(), "adad"), "adat")
        self.assertEqual(run(helpers.voiced_between(), "atatt"), "adatt")
        self.assertEqual(run(helpers.both_rules(), "atad"), "adat")
        self.assertEqual(run(helpers.behind_a(), "aaabaa"), "abbbab")
        self.assertEqual(run(helpers.before_a(), "aaabaa"), "bbabba")
        self.assertEqual(run(helpers.sums(), "yxyyx"), "yyxyy")

    def test_states_of_examples(self):
        machine = helpers.both_rules()
        self.assertEqual(states_of(machine, "atad"), [(0, 2), (1, 1), (0, 2), (1, 0)])
        self.assertEqual(left_state(machine, "at"), 0)
        self.assertEqual(left_state(machine, "ta"), 1)
        self.assertEqual(right_state(machine, "at"), 1)
        self.assertEqual(right_state(machine, "ta"), 2)

    def test_empty_word(self):
        for machine in some_machines(3, 20):
            self.assertEqual(run(machine, ""), "")
            self.assertEqual(states_of(machine, ""), [])
            self.assertEqual(left_state(machine, ""), 0)
            self.assertEqual(right_state(machine, ""), 0)
            self.assertEqual(output_between(machine, len(machine.left) - 1, len(machine.right) - 1, ""), "")

    def test_all_short_words(self):
        for machine in some_machines(4, 60):
            for word in words_up_to(machine.reads, depth(machine)):
                self.assertEqual(run(machine, word), helpers.plain_run(machine, word))
                self.assertEqual(left_state(machine, word), helpers.plain_left(machine, 0, word))
                self.assertEqual(right_state(machine, word), helpers.plain_right(machine, 0, word))
                pairs = [
                    (helpers.plain_left(machine, 0, word[:place]), helpers.plain_right(machine, 0, word[place + 1:]))
                    for place in range(len(word))
                ]
                self.assertEqual(states_of(machine, word), pairs)

    def test_between_all_states(self):
        for machine in some_machines(5, 40):
            for word in words_up_to(machine.reads, 3):
                for i in range(len(machine.left)):
                    for j in range(len(machine.right)):
                        self.assertEqual(
                            output_between(machine, i, j, word), helpers.plain_between(machine, i, j, word),
                        )

    def test_kinds(self):
        pairs = states_of(helpers.both_rules(), "ada")
        self.assertIsInstance(pairs, list)
        for pair in pairs:
            self.assertIsInstance(pair, tuple)
        pairs.append("more")
        self.assertEqual(len(states_of(helpers.both_rules(), "ada")), 3)

    def test_one_state_for_each_place(self):
        # Left states count the letters in front, right states those behind.
        machine = Machine(
            "a", "ab", helpers.cycle(40, 1), helpers.cycle(40, 1),
            [["b" if j == 39 - i else "a" for j in range(40)] for i in range(40)],
        )
        self.assertEqual(run(machine, "a" * 40), "b" * 40)
        self.assertEqual(run(machine, "a" * 39), "a" * 39)
        self.assertEqual(states_of(machine, "a" * 40), [(k, 39 - k) for k in range(40)])

    def test_long_word(self):
        self.assertEqual(run(helpers.sums(), "y" * 100000), "yx" * 50000)
        self.assertEqual(run(helpers.before_a(), "a" * 100001), "b" * 100000 + "a")


class TestTrim(unittest.TestCase):
    def test_all_states_have_words(self):
        for machine in (helpers.voiced_end(), helpers.both_rules(), helpers.sums(), identity("ab")):
            self.assertEqual(form(trim(machine)), form(machine))

    def test_states_without_words(self):
        machine = Machine(
            "ab", "xy", [[2, 0], [1, 1], [2, 2]], [[0, 0], [1, 2], [0, 0]],
            [["xx", "xy", "yx"], ["yy", "xy", "xx"], ["xy", "yy", "xx"]],
        )
        self.assertEqual(form(trim(machine)), ("ab", "xy", ((1, 0), (1, 1)), ((0, 0),), (("xx",), ("xy",))))

    def test_left_order(self):
        # First words: 3 by a, 1 by b, 2 by aa.
        machine = Machine("ab", "ab", [[3, 1], [0, 0], [0, 0], [2, 0]], [[0, 0]], [["aa"], ["ab"], ["ba"], ["bb"]])
        self.assertEqual(trim(machine).left, [[1, 2], [3, 0], [0, 0], [0, 0]])
        self.assertEqual(trim(machine).table, [["aa"], ["bb"], ["ab"], ["ba"]])

    def test_right_order(self):
        # First words: 1 by a, 2 by b, 4 by ab (which is read b, a), 3 by ba.
        right = [[1, 2], [0, 3], [4, 0], [0, 0], [0, 0]]
        machine = Machine("ab", "abcde", [[0, 0]], right, [["aa", "bb", "cc", "dd", "ee"]])
        self.assertEqual(trim(machine).right, [[1, 2], [0, 4], [3, 0], [0, 0], [0, 0]])
        self.assertEqual(trim(machine).table, [["aa", "bb", "cc", "ee", "dd"]])

    def test_order_of_the_alphabet(self):
        machine = Machine("ba", "ab", [[2, 1], [0, 0], [0, 0]], [[0, 0]], [["aa"], ["ab"], ["ba"]])
        self.assertEqual(trim(machine).left, [[1, 2], [0, 0], [0, 0]])
        self.assertEqual(trim(machine).table, [["aa"], ["ba"], ["ab"]])

    def test_by_all_words(self):
        for machine in some_machines(6, 150):
            lefts = list(helpers.plain_first_words(machine, helpers.plain_left, 5))
            rights = list(helpers.plain_first_words(machine, helpers.plain_right, 5))
            made = trim(machine)
            self.assertEqual((made.reads, made.writes), (machine.reads, machine.writes))
            self.assertEqual(made.left, [[lefts.index(to) for to in machine.left[i]] for i in lefts])
            self.assertEqual(made.right, [[rights.index(to) for to in machine.right[j]] for j in rights])
            self.assertEqual(made.table, [[machine.table[i][j] for j in rights] for i in lefts])

    def test_same_outputs(self):
        for machine in some_machines(7, 40):
            for word in words_up_to(machine.reads, 4):
                self.assertEqual(run(trim(machine), word), run(machine, word))

    def test_forty_states(self):
        left = [[state + 1] for state in range(39)] + [[39]]
        machine = Machine("a", "a", left, helpers.cycle(40, 1), [["a"] * 40 for _ in range(40)])
        self.assertEqual(form(trim(machine)), form(machine))


class TestMirror(unittest.TestCase):
    def test_point_35(self):
        self.assertEqual(form(mirror(helpers.behind_a())), form(helpers.before_a()))

    def test_exchanged(self):
        machine = Machine("ab", "xyz", [[1, 0], [0, 1]], [[0, 1], [2, 2], [1, 0]], [["xy", "yz", "zx"], ["xx"] * 3])
        self.assertEqual(form(mirror(machine)), (
            "ab", "xyz", ((0, 1), (2, 2), (1, 0)), ((1, 0), (0, 1)), (("xy", "xx"), ("yz", "xx"), ("zx", "xx")),
        ))

    def test_reversed_outputs(self):
        for machine in some_machines(8, 60):
            turned = mirror(machine)
            self.assertEqual(form(mirror(turned)), form(machine))
            for word in words_up_to(machine.reads, 4):
                self.assertEqual(run(turned, word[::-1]), run(machine, word)[::-1])


class TestIdentity(unittest.TestCase):
    def test_form(self):
        self.assertEqual(form(identity("a")), ("a", "a", ((0,),), ((0,),), (("a",),)))
        self.assertEqual(form(identity("tad")), ("tad", "tad", ((0, 0, 0),), ((0, 0, 0),), (("tad",),)))
        for word in words_up_to("edcba", 3):
            self.assertEqual(run(identity("edcba"), word), word)

    def test_sides_are_apart(self):
        machine = identity("ab")
        machine.left[0][0] = 7
        self.assertEqual(machine.right, [[0, 0]])


class TestRecode(unittest.TestCase):
    def test_letters(self):
        machine = helpers.both_rules()
        made = recode(machine, "zxy", "xyx")
        self.assertEqual(form(made), ("adt", "zxy") + form(machine)[2:4] + (
            (("xxx", "xyx", "xyx"), ("xxx", "xyy", "xyx")),
        ))

    def test_order_of_the_output_alphabet(self):
        machine = Machine("ab", "yx", [[0, 0]], [[0, 0]], [["xy"]])
        self.assertEqual(recode(machine, "pq", "pq").table, [["qp"]])
        self.assertEqual(recode(machine, "qp", "pq").table, [["qp"]])
        self.assertEqual(recode(machine, "pqrst", "tt").table, [["tt"]])
        self.assertEqual(recode(machine, "xy", "xy").table, [["yx"]])
        self.assertEqual(recode(machine, "a", "aa").writes, "a")

    def test_outputs(self):
        source = random.Random(9)
        for machine in some_machines(10, 40):
            alphabet = source.choice(["a", "ba", "edcba"])
            letters = "".join(source.choice(alphabet) for _ in machine.writes)
            made = recode(machine, alphabet, letters)
            self.assertEqual((made.reads, made.writes), (machine.reads, alphabet))
            for word in words_up_to(machine.reads, 3):
                changed = "".join(letters[machine.writes.index(letter)] for letter in run(machine, word))
                self.assertEqual(run(made, word), changed)


class TestArguments(unittest.TestCase):
    def calls(self, machine):
        return [
            trim(machine), mirror(machine), recode(machine, machine.writes, machine.writes), copy_of(machine),
        ]

    def test_machines_stay(self):
        for machine in some_machines(11, 20):
            before = form(machine)
            word = machine.reads * 3
            self.calls(machine)
            form(machine)
            run(machine, word)
            output_between(machine, 0, 0, word)
            states_of(machine, word)
            left_state(machine, word)
            right_state(machine, word)
            self.assertEqual(form(machine), before)

    def test_results_are_apart(self):
        for machine in some_machines(12, 20):
            before = form(machine)
            for made in self.calls(machine):
                kept = form(made)
                for rows in (made.left, made.right, made.table):
                    rows[0][0] = "spoiled"
                    rows[-1].append("more")
                    rows.append("more")
                self.assertEqual(form(machine), before)
                self.assertIn(kept, [form(again) for again in self.calls(machine)])

    def test_later_changes_of_arguments(self):
        for machine in some_machines(13, 20):
            results = self.calls(machine)
            before = [form(made) for made in results]
            for rows in (machine.left, machine.right, machine.table):
                rows[0][0] = "spoiled"
                rows[-1].append("more")
                rows.append("more")
            self.assertEqual([form(made) for made in results], before)


def copy_of(machine):
    return Machine(machine.reads, machine.writes, machine.left, machine.right, machine.table)


if __name__ == "__main__":
    unittest.main()
