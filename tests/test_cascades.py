import random
import unittest

from foreaft.cascades import cascade, commutes, compose, is_idempotent, order_difference
from foreaft.errors import MachineError
from foreaft.least import counts, is_least, least
from foreaft.machines import Machine, form, identity, left_state, mirror, output_between, recode, run
from foreaft.sides import look_ahead
from tests import helpers
from tests.helpers import copied, cycle, random_machine, shuffled, some_machines, words_up_to


def counting(tail, around, letters="abc", marks=None):
    """Counts the letters in front, up to a tail and then around; the last letter of a round is turned."""
    many = tail + around
    left = [[state + 1 if state < many - 1 else tail] * len(letters) for state in range(many)]
    table = [[letters]] * (many - 1) + [[marks or letters[::-1]]]
    return Machine(letters, letters, left, [[0] * len(letters)], table)


def marking(around):
    """Counts the letters around, writes a or b for each letter, and b for the last one of a round."""
    return Machine("abc", "abc", cycle(around, 3), [[0] * 3], [["aab"]] * (around - 1) + [["bba"]])


def told_by_c(tail, around):
    """Counts the letters in front, but the number shows only in what becomes of c."""
    many = tail + around
    left = [[state + 1 if state < many - 1 else tail] * 3 for state in range(many)]
    return Machine("abc", "abc", left, [[0] * 3], [["abc"]] * (many - 1) + [["aba"]])


def plain_states(first, second, most):
    """Point 19: how many left states of the composed machine are states of words; more than most are not counted."""
    found = {}
    words = [""]
    for word in words:
        rest = []
        for j in range(len(first.right)):
            rest.append(left_state(second, output_between(first, 0, j, word)))
        state = (left_state(first, word), tuple(rest))
        if state not in found:
            found[state] = word
            words.extend(word + letter for letter in first.reads)
        if len(found) > most:
            break
    return len(found)


def random_pairs(seed, many, most=3):
    source = random.Random(seed)
    for _ in range(many):
        reads, between, writes = [source.choice(["ab", "ba", "cab", "a"]) for _ in range(3)]
        first = random_machine(source, reads, between, source.randint(1, most), source.randint(1, most))
        second = random_machine(source, between, writes, source.randint(1, most), source.randint(1, most))
        if source.random() < 0.3:
            first = helpers.mostly_alike(source, first)
        yield first, second


class Case(unittest.TestCase):
    def check_refused(self, reason, call, *arguments):
        with self.assertRaises(MachineError) as caught:
            call(*arguments)
        self.assertEqual(caught.exception.reason, reason)


class TestCompose(Case):
    def test_point_34(self):
        made = compose(helpers.voiced_between(), helpers.voiced_end())
        self.assertEqual(form(made), form(helpers.both_rules()))
        self.assertEqual(run(made, "atad"), "adat")
        self.assertEqual(look_ahead(made), 1)

    def test_one_after_the_other(self):
        for first, second in random_pairs(70, 120):
            made = compose(first, second)
            self.assertEqual((made.reads, made.writes), (first.reads, second.writes))
            for word in words_up_to(first.reads, {1: 9, 2: 6, 3: 4}[len(first.reads)]):
                self.assertEqual(run(made, word), run(second, run(first, word)))
            self.assertIs(is_least(made), True)

    def test_least_of_both(self):
        source = random.Random(71)
        for first, second in random_pairs(72, 40):
            made = form(compose(first, second))
            self.assertEqual(form(compose(shuffled(source, first), shuffled(source, second))), made)
            self.assertEqual(form(compose(least(first), least(second))), made)
            turned = compose(mirror(first), mirror(second))
            self.assertEqual(form(least(mirror(turned))), made)

    def test_with_the_identity(self):
        for machine in some_machines(73, 40):
            self.assertEqual(form(compose(identity(machine.reads), machine)), form(least(machine)))
            self.assertEqual(form(compose(machine, identity(machine.writes))), form(least(machine)))

    def test_with_a_recoding(self):
        machine = helpers.both_rules()
        self.assertEqual(form(compose(machine, recode(identity("adt"), "xy", "xyx"))), form(recode(machine, "xy", "xyx")))

    def test_alphabets_do_not_fit(self):
        for first, second in (
            (identity("ab"), identity("ba")), (identity("ab"), identity("abc")), (identity("abc"), identity("ab")),
            (Machine("ab", "xy", [[0, 0]], [[0, 0]], [["xy"]]), identity("ab")),
            (helpers.behind_a(), helpers.sums()),
        ):
            self.check_refused("alphabets do not fit", compose, first, second)
            self.check_refused("alphabets do not fit", cascade, [first, second])
        made = compose(Machine("ab", "xy", [[0, 0]], [[0, 0]], [["xy"]]), helpers.sums())
        self.assertEqual((made.reads, made.writes), ("ab", "xy"))

    def test_forty_states(self):
        # Rounds of 8 and of 5 letters, and a letter in front of them.
        for turn in (lambda machine: machine, mirror):
            made = compose(turn(counting(0, 8)), turn(counting(0, 5)))
            self.assertEqual(sorted(counts(made)), [1, 40])
            made = compose(turn(counting(1, 13, marks="bca")), turn(counting(0, 3, marks="acb")))
            self.assertEqual(sorted(counts(made)), [1, 40])
            for first, second in ((counting(1, 8), counting(0, 5)), (counting(0, 8), counting(1, 5))):
                self.assertEqual(plain_states(first, second, 100), 41)
                self.check_refused("too many states", compose, turn(first), turn(second))
                self.check_refused("too many states", cascade, [turn(first), turn(second)])
                self.check_refused("too many states", cascade, [turn(first), turn(second), identity("xy")])

    def test_hundred_states(self):
        # Between 40 and 100 states that cannot be told apart, because no c is read by the second machine.
        for turn in (lambda machine: machine, mirror):
            first, second = marking(25), told_by_c(0, 4)
            self.assertEqual(plain_states(first, second, 200), 100)
            made = compose(turn(first), turn(second))
            self.assertEqual(form(made), form(turn(first)))
            self.assertEqual(sorted(counts(made)), [1, 25])
            for first, second, many in (
                (marking(25), told_by_c(1, 4), 101), (marking(17), told_by_c(0, 6), 102), (marking(34), told_by_c(0, 3), 102),
                (marking(40), told_by_c(0, 3), 120),
            ):
                self.assertEqual(plain_states(first, second, 200), many)
                self.check_refused("too many states", compose, turn(first), turn(second))

    def test_states_of_words_only(self):
        # Both count, but of their 1600 pairs of states words have 40.
        first, second = marking(40), told_by_c(0, 40)
        self.assertEqual(plain_states(first, second, 200), 40)
        self.assertEqual(form(compose(first, second)), form(first))

    def test_least_machines_are_composed(self):
        # The circles of 40 and of 39 states do nothing.
        one = Machine("ab", "ab", cycle(40, 2), cycle(37, 2), [["ba"] * 37] * 40)
        two = Machine("ab", "ab", cycle(39, 2), cycle(38, 2), [["ba"] * 38] * 39)
        self.assertEqual(form(compose(one, two)), form(identity("ab")))

    def test_rows_make_states(self):
        # How many states there are can be more than the product of the states on one side.
        refused = more = 0
        source = random.Random(74)
        for _ in range(150):
            first = least(random_machine(source, "abc", "abc", source.randint(1, 2), source.randint(2, 5)))
            second = least(random_machine(source, "abc", "abc", source.randint(3, 6), 1))
            many = plain_states(first, second, 100)
            more += many > len(first.left) * len(second.left)
            if many > 100:
                self.check_refused("too many states", compose, first, second)
                self.check_refused("too many states", compose, mirror(first), mirror(second))
                refused += 1
        self.assertGreater(more, 20)
        self.assertGreater(refused, 5)

    def test_exactly_when_too_many(self):
        told = {True: 0, False: 0}
        source = random.Random(75)
        for _ in range(150):
            first = random_machine(source, "abc", "abc", source.randint(1, 3), source.randint(2, 5))
            second = random_machine(source, "abc", "abc", source.randint(2, 6), source.randint(1, 2))
            one, two = least(first), least(second)
            many = max(plain_states(one, two, 100), plain_states(mirror(one), mirror(two), 100))
            if many > 100:
                self.check_refused("too many states", compose, first, second)
            elif many <= 40:
                compose(first, second)
            else:
                continue
            told[many > 100] += 1
        self.assertGreater(min(told.values()), 5, told)


class TestCascade(Case):
    def test_one_machine(self):
        for machine in some_machines(76, 30):
            made = cascade([machine])
            self.assertEqual(form(made), form(least(machine)))
            self.assertIsNot(made, machine)
        made = cascade([helpers.both_rules()])
        self.assertEqual(form(made), form(helpers.both_rules()))

    def test_several(self):
        source = random.Random(77)
        for _ in range(40):
            machines = [random_machine(source, "ab", "ab", source.randint(1, 2), 1) for _ in range(2)]
            machines += [mirror(random_machine(source, "ab", "ab", source.randint(1, 2), 1)) for _ in range(2)]
            made = cascade(machines)
            self.assertIs(is_least(made), True)
            for word in words_up_to("ab", 5):
                out = word
                for machine in machines:
                    out = run(machine, out)
                self.assertEqual(run(made, word), out)

    def test_of_the_first_step(self):
        # Too many states in the first step, alphabets that do not fit in the second one, and the other way round.
        many = [counting(0, 8), counting(1, 5)]
        self.check_refused("too many states", cascade, many + [identity("ab")])
        self.check_refused("alphabets do not fit", cascade, [identity("ab")] + many)
        self.check_refused("too many states", cascade, [identity("abc")] + many)
        self.check_refused("alphabets do not fit", cascade, [identity("abc"), identity("ab"), identity("abc")])

    def test_from_the_first_one_on(self):
        # The last two alone would have too many states, but the first one writes one letter only.
        first = Machine("a", "abc", [[0]], [[0]], [["a"]])
        last = Machine("abc", "a", [[0] * 3], [[0] * 3], [["aaa"]])
        self.assertEqual(counts(cascade([counting(0, 8), last])), (1, 1))
        self.assertEqual(counts(cascade([counting(0, 8), last, first, counting(1, 5)])), (6, 1))
        self.check_refused("too many states", cascade, [counting(0, 8), counting(1, 5), last, first])


class TestCommutes(Case):
    def test_point_34(self):
        one, two = helpers.voiced_end(), helpers.voiced_between()
        self.assertIs(commutes(one, two), True)
        self.assertIs(commutes(two, one), True)
        self.assertIsNone(order_difference(one, two))

    def test_by_outputs(self):
        source = random.Random(78)
        told = {True: 0, False: 0}
        for _ in range(150):
            one = random_machine(source, "ba", "ba", source.randint(1, 2), 1)
            two = random_machine(source, "ba", "ba", 1, source.randint(1, 2))
            if source.random() < 0.5:
                two = random_machine(source, "ba", "ba", source.randint(1, 2), 1)
            first = next((word for word in words_up_to("ba", 7) if run(two, run(one, word)) != run(one, run(two, word))), None)
            self.assertEqual(order_difference(one, two), first)
            self.assertEqual(order_difference(two, one), first)
            self.assertIs(commutes(one, two), first is None)
            told[first is None] += 1
        self.assertGreater(min(told.values()), 10)

    def test_alphabets_do_not_fit(self):
        to_other = Machine("ab", "ba", [[0, 0]], [[0, 0]], [["ab"]])
        from_other = Machine("ba", "ab", [[0, 0]], [[0, 0]], [["ab"]])
        for one, two in (
            (identity("ab"), identity("ba")), (identity("ab"), to_other), (identity("ab"), from_other),
            (to_other, identity("ab")), (from_other, identity("ab")), (to_other, from_other), (from_other, to_other),
            (to_other, to_other), (identity("ab"), identity("abc")),
        ):
            self.check_refused("alphabets do not fit", commutes, one, two)
            self.check_refused("alphabets do not fit", order_difference, one, two)

    def test_too_many_states(self):
        one, two = counting(0, 8), counting(1, 5)
        self.check_refused("too many states", commutes, one, two)
        self.check_refused("too many states", order_difference, one, two)

    def test_too_many_states_in_one_order(self):
        # Behind a machine that writes only a and b, what becomes of c cannot be told.
        one, two = marking(21), told_by_c(0, 4)
        compose(one, two)
        self.check_refused("too many states", compose, two, one)
        for pair in ((one, two), (two, one)):
            self.check_refused("too many states", commutes, *pair)
            self.check_refused("too many states", order_difference, *pair)

    def test_with_itself(self):
        for machine in (helpers.behind_a(), helpers.sums(), helpers.both_rules(), identity("ab")):
            self.assertIs(commutes(machine, machine), True)
            self.assertIs(commutes(machine, identity(machine.reads)), True)

    def test_behind_and_before(self):
        self.assertIs(commutes(helpers.behind_a(), helpers.before_a()), False)
        self.assertEqual(order_difference(helpers.behind_a(), helpers.before_a()), "aa")


class TestIdempotent(Case):
    def test_examples(self):
        for machine, expected in (
            (helpers.behind_a(), True), (helpers.before_a(), True), (helpers.sums(), False), (identity("abc"), True),
            (helpers.voiced_end(), True), (helpers.voiced_between(), True),
            (Machine("ab", "ab", [[0, 0]], [[0, 0]], [["ba"]]), False),
            (Machine("ab", "ab", [[0, 0]], [[0, 0]], [["bb"]]), True),
        ):
            self.assertIs(is_idempotent(machine), expected)
            self.assertIs(is_idempotent(shuffled(random.Random(79), machine)), expected)

    def test_by_outputs(self):
        source = random.Random(80)
        told = {True: 0, False: 0}
        for _ in range(80):
            machine = random_machine(source, "ab", "ab", source.randint(1, 2), source.randint(1, 2))
            machine = helpers.mostly_alike(source, machine)
            expected = all(run(machine, run(machine, word)) == run(machine, word) for word in words_up_to("ab", 7))
            self.assertIs(is_idempotent(machine), expected)
            told[expected] += 1
        self.assertGreater(min(told.values()), 10)

    def test_refused(self):
        self.check_refused("alphabets do not fit", is_idempotent, Machine("ab", "ba", [[0, 0]], [[0, 0]], [["ab"]]))
        self.check_refused("alphabets do not fit", is_idempotent, Machine("ab", "a", [[0, 0]], [[0, 0]], [["aa"]]))
        source = random.Random(81)
        machine = random_machine(source, "abc", "abc", 10, 10)
        self.check_refused("too many states", is_idempotent, machine)


class TestArguments(Case):
    def test_arguments_stay(self):
        one, two = helpers.voiced_between(), helpers.voiced_end()
        before = form(one), form(two)
        machines = [one, two, one]
        compose(one, two)
        cascade(machines)
        commutes(one, two)
        order_difference(one, two)
        is_idempotent(one)
        self.assertEqual((form(one), form(two)), before)
        self.assertEqual(len(machines), 3)
        self.assertTrue(machines[0] is one and machines[1] is two and machines[2] is one)

    def test_results_are_apart(self):
        one, two = copied(helpers.voiced_between()), copied(helpers.voiced_end())
        for call in (lambda: compose(one, two), lambda: cascade([one]), lambda: cascade([one, two])):
            before = form(one), form(two)
            made = call()
            kept = form(made)
            for rows in (made.left, made.right, made.table):
                rows[0][0] = "spoiled"
                rows[-1].append("more")
                rows.append("more")
            self.assertEqual((form(one), form(two)), before)
            self.assertEqual(form(call()), kept)

    def test_later_changes(self):
        one, two = copied(helpers.voiced_between()), copied(helpers.voiced_end())
        machines = [one, two]
        made = cascade(machines)
        one.table[1][1] = "adt"
        two.right[0][0] = 0
        machines.clear()
        self.assertEqual(form(made), form(helpers.both_rules()))


if __name__ == "__main__":
    unittest.main()
