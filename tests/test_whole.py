"""Point 33: what the parts of the program say together, and points 34 and 35 from the beginning to the end."""

import random
import unittest

from foreaft.books import Book
from foreaft.cascades import cascade, commutes, compose, is_idempotent, order_difference
from foreaft.collisions import collision, is_injective
from foreaft.compare import difference, is_same, is_same_paper, same_paper
from foreaft.errors import MachineError
from foreaft.images import count_preimages, first_preimage, preimages
from foreaft.least import counts, is_least, is_least_paper, least, least_paper
from foreaft.machines import Machine, form, identity, mirror, run
from foreaft.patterns import Pattern, count_outputs, matches
from foreaft.rules import Rules, applied, machine_of
from foreaft.sides import ahead_paper, is_ahead_paper, is_one_sided, look_ahead, look_back
from tests import helpers
from tests.helpers import plain_difference, random_machine, shuffled, some_machines, words_up_to
from tests.readings import Reading, random_pattern, random_rules, sources


def rule_machines(seed, many, lines=3):
    """Texts of rules over two letters, each with its machine."""
    for source in sources(seed, many):
        text = random_rules(source, "ab", source.randint(1, lines), source.choice([1, 2, 3, 5]))
        yield text, machine_of(Rules("ab", text))


class TestTogether(unittest.TestCase):
    def test_same_rules(self):
        # The same exactly if the least machines are equal, if there is a paper, and if there is no difference.
        told = {True: 0, False: 0}
        made = list(rule_machines(140, 60, 2))
        for text, one in made:
            for other_text, other in made[:30]:
                same = form(one) == form(other)
                self.assertIs(is_same(one, other), same)
                word = difference(one, other)
                self.assertEqual(word is None, same)
                if same:
                    self.assertIs(is_same_paper(one, other, same_paper(one, other)), True)
                else:
                    self.assertIsNone(same_paper(one, other))
                    rules, others = Rules("ab", text), Rules("ab", other_text)
                    self.assertNotEqual(applied(rules, word), applied(others, word))
                    if len(word) <= 7:
                        for before in words_up_to("ab", len(word)):
                            if before == word:
                                break
                            self.assertEqual(applied(rules, before), applied(others, before))
                told[same] += 1
        self.assertGreater(min(told.values()), 50, told)

    def test_papers_of_rules(self):
        for text, made in rule_machines(141, 60):
            self.assertIs(is_least(made), True)
            self.assertIs(is_least_paper(made, least_paper(made)), True)
            self.assertEqual(counts(made), (len(made.left), len(made.right)))
            paper = ahead_paper(made)
            ahead = look_ahead(made)
            if ahead == 0:
                self.assertIsNone(paper)
            else:
                self.assertIs(is_ahead_paper(made, paper), True)
                self.assertEqual(len(paper), 5 if ahead is None else 4)
                if ahead is not None:
                    self.assertEqual(len(paper[1]), ahead - 1)

    def test_sides_of_rules(self):
        for head, left, right in (
            ("a>b/b_", True, False), ("a>b/_b", False, True), ("a>b/_", True, True), ("a>b/#_", True, False),
            ("a>b/b_b", False, False), ("a>b/(|b)_", True, True), ("a>b/_#", False, True), ("a>b/#(..)*_", True, False),
        ):
            made = machine_of(Rules("ab", head))
            self.assertIs(is_one_sided(made, "left"), left, head)
            self.assertIs(is_one_sided(made, "right"), right, head)
        for many in range(5):
            made = machine_of(Rules("ab", "a>b/_" + "." * many + "b"))
            self.assertEqual(look_ahead(made), many + 1)
            self.assertEqual(look_back(made), 0)
            self.assertEqual(look_back(mirror(made)), many + 1)
        self.assertIsNone(look_ahead(machine_of(Rules("ab", "a>b/_a*#"))))
        self.assertIsNone(look_back(machine_of(Rules("ab", "a>b/#(..)*_"))))

    def test_cascades_of_rules(self):
        told = {True: 0, False: 0}
        made = list(rule_machines(142, 16, 2))
        for text, one in made:
            for other_text, other in made:
                try:
                    both, turned = compose(one, other), compose(other, one)
                except MachineError:
                    continue
                first, second = Rules("ab", text), Rules("ab", other_text)
                for word in words_up_to("ab", 5):
                    self.assertEqual(run(both, word), applied(second, applied(first, word)))
                word = order_difference(one, other)
                self.assertIs(commutes(one, other), word is None)
                self.assertEqual(word, difference(both, turned))
                told[word is None] += 1
                book = Book("ab")
                book.insert(0, other)
                book.insert(0, one)
                self.assertEqual(form(book.whole()), form(both))
                self.assertIs(book.can_swap(0), word is None)
                self.assertIs(0 in book.idle_passes(), form(both) == form(other))
                self.assertIs(1 in book.idle_passes(), form(both) == form(one))
        self.assertGreater(min(told.values()), 20, told)

    def test_twice_the_same_pass(self):
        for _, made in rule_machines(143, 40, 2):
            try:
                twice = is_idempotent(made)
            except MachineError:
                continue
            book = Book("ab")
            book.insert(0, made)
            book.insert(1, made)
            self.assertEqual(book.idle_passes(), [0, 1] if twice else [])
            self.assertIs(book.can_swap(0), True)

    def test_rules_of_one_list_and_of_passes(self):
        # Rules at once, and one after the other, differ exactly where a look is at what was changed.
        text = "a>b/b_\nb>a/a_"
        once = machine_of(Rules("ab", text))
        passes = cascade([machine_of(Rules("ab", line)) for line in text.split("\n")])
        word = difference(once, passes)
        self.assertEqual(word, plain_difference(once, passes, 5))
        self.assertNotEqual(run(once, word), run(passes, word))

    def test_counts_add_up(self):
        for source in sources(144, 30):
            machine = next(some_machines(source.randrange(1000000), 1))
            pattern = Pattern(machine.writes, random_pattern(source, machine.writes, 8))
            for length in range(5):
                words = [
                    word for word in words_up_to(machine.writes, length) if len(word) == length and matches(pattern, word)
                ]
                self.assertEqual(
                    count_outputs(machine, pattern, length), sum(count_preimages(machine, word) for word in words),
                )

    def test_collisions_and_preimages(self):
        told = {True: 0, False: 0}
        source = random.Random(145)
        for machine in list(some_machines(146, 60)) + [made for _, made in rule_machines(147, 60)]:
            if max(counts(machine)) > 6:
                continue
            found = collision(machine)
            injective = found is None
            self.assertIs(is_injective(machine), injective)
            told[injective] += 1
            for _ in range(10):
                word = "".join(source.choice(machine.reads) for _ in range(source.randint(0, 8)))
                output = run(machine, word)
                if injective:
                    self.assertEqual(preimages(machine, output, 2), [word])
                elif len(word) < len(found[0]):
                    self.assertEqual(count_preimages(machine, output), 1)
            if not injective:
                self.assertEqual(tuple(preimages(machine, run(machine, found[0]), 2)), found)
                self.assertEqual(first_preimage(machine, run(machine, found[1])), found[0])
        self.assertGreater(min(told.values()), 10, told)

    def test_after_an_injective_one(self):
        sums = Machine("ab", "ab", [[0, 1], [1, 0]], [[0, 0]], [["ab"], ["ba"]])
        for machine in (helpers.behind_a(), helpers.before_a(), sums, identity("ab")):
            both = compose(sums, machine)
            self.assertIs(is_injective(both), is_injective(machine))
            if not is_injective(machine):
                self.assertEqual(len(collision(both)[0]), len(collision(machine)[0]))

    def test_all_looks_are_at_the_given_word(self):
        for text, made in rule_machines(148, 40):
            reading = Reading("ab", text, 7)
            for word in words_up_to("ab", 7):
                self.assertEqual(run(made, word), reading.applied(word), (text, word))

    def test_machines_that_are_the_same_are_treated_alike(self):
        source = random.Random(149)
        for machine in some_machines(150, 40, ((2, 2), (3, 2), (2, 3))):
            other = shuffled(source, machine)
            self.assertEqual(collision(other), collision(machine))
            self.assertEqual(look_ahead(other), look_ahead(machine))
            self.assertEqual(form(least(other)), form(least(machine)))
            pattern = Pattern(machine.writes, random_pattern(source, machine.writes, 9))
            self.assertEqual(count_outputs(other, pattern, 30), count_outputs(machine, pattern, 30))


class TestPoint34(unittest.TestCase):
    def setUp(self):
        self.end = machine_of(Rules("adt", "d>t/_#"))
        self.between = machine_of(Rules("adt", "t>d/a_a"))

    def test_machines(self):
        self.assertEqual(
            form(self.end), form(Machine("adt", "adt", [[0, 0, 0]], [[1, 1, 1], [1, 1, 1]], [["att", "adt"]])),
        )
        self.assertEqual(form(self.between), form(Machine(
            "adt", "adt", [[1, 0, 0], [1, 0, 0]], [[1, 0, 0], [1, 0, 0]], [["adt", "adt"], ["adt", "add"]],
        )))

    def test_one_after_the_other(self):
        both = form(Machine(
            "adt", "adt", [[1, 0, 0], [1, 0, 0]], [[1, 2, 2], [1, 2, 2], [1, 2, 2]],
            [["att", "adt", "adt"], ["att", "add", "adt"]],
        ))
        made = compose(self.between, self.end)
        self.assertEqual(form(made), both)
        self.assertEqual(form(compose(self.end, self.between)), both)
        self.assertEqual(form(machine_of(Rules("adt", "d>t/_#\nt>d/a_a"))), both)
        self.assertEqual(form(machine_of(Rules("adt", "t>d/a_a\nd>t/_#"))), both)
        self.assertEqual(run(made, "atad"), "adat")
        self.assertEqual(look_ahead(made), 1)
        self.assertIs(commutes(self.between, self.end), True)
        self.assertIsNone(order_difference(self.between, self.end))

    def test_book(self):
        book = Book("adt")
        book.insert(0, self.between)
        book.insert(1, self.end)
        self.assertEqual(book.trace("atad"), ["atad", "adad", "adat"])
        self.assertIs(book.can_swap(0), True)
        self.assertEqual(book.idle_passes(), [])


class TestPoint35(unittest.TestCase):
    def test_behind_and_before(self):
        behind = Machine("ab", "ab", [[1, 0], [1, 0]], [[0, 0]], [["ab"], ["bb"]])
        before = mirror(behind)
        self.assertEqual(form(machine_of(Rules("ab", "a>b/a_"))), form(behind))
        self.assertEqual(form(machine_of(Rules("ab", "a>b/_a"))), form(before))
        self.assertEqual(difference(behind, before), "aa")
        self.assertEqual((run(behind, "aa"), run(before, "aa")), ("ab", "ba"))
        self.assertIs(is_one_sided(behind, "left"), True)
        self.assertEqual((look_ahead(behind), look_back(behind)), (0, 1))
        self.assertIs(is_ahead_paper(mirror(behind), ("a", "", "a", "b")), True)
        self.assertEqual(collision(behind), ("aa", "ab"))

    def test_sums(self):
        sums = Machine("xy", "xy", [[0, 1], [1, 0]], [[0, 0]], [["xy"], ["yx"]])
        self.assertIsNone(look_back(sums))
        self.assertIs(is_ahead_paper(mirror(sums), ("x", "", "x", "x", "y")), True)
        self.assertIs(is_injective(sums), True)
        self.assertIsNone(collision(sums))


class TestTime(unittest.TestCase):
    """Large cases that would take very long if a whole automaton or all words were gone through."""

    def test_large_books(self):
        source = random.Random(151)
        letters = "abcde"
        turns = [Machine(letters, letters, [[0] * 5], [[0] * 5], [["".join(source.sample(letters, 5))]]) for _ in range(5)]
        book = Book(letters)
        book.insert(0, random_machine(source, letters, letters, 40, 40))
        for machine in turns:
            book.insert(1, machine)
        made = book.whole()
        word = "".join(source.choice(letters) for _ in range(2000))
        self.assertEqual(run(made, word), book.apply(word))
        self.assertEqual(book.idle_passes(), [])

    def test_fronts_with_very_many_states(self):
        lines = [f"a>b/{letter}..........._...........{letter}" for letter in "abcdea"]
        rules = Rules("abcde", "\n".join(lines))
        with self.assertRaises(MachineError) as caught:
            machine_of(rules)
        self.assertEqual(caught.exception.reason, "too many states")
        self.assertEqual(applied(rules, "a" * 30000), "a" * 12 + "b" * (30000 - 24) + "a" * 12)

    def test_long_least_collisions(self):
        # A letter is forgotten only at the end of a round from both sides.
        for lefts, rights in ((6, 5), (6, 6)):
            left, right = helpers.cycle(lefts, 5), helpers.cycle(rights, 5)
            table = [["abcde"] * rights for _ in range(lefts)]
            table[-1][-1] = "abcdd"
            found = collision(Machine("abcde", "abcde", left, right, table))
            self.assertEqual(found, tuple("a" * (lefts - 1) + letter + "a" * (rights - 1) for letter in "de"))


if __name__ == "__main__":
    unittest.main()
