import random
import unittest

from foreaft.books import Book
from foreaft.cascades import cascade, commutes
from foreaft.errors import BookError, ForeaftError, MachineError
from foreaft.least import is_least, least
from foreaft.machines import Machine, form, identity, mirror, recode, run
from foreaft.rules import Rules, machine_of
from tests import helpers
from tests.helpers import copied, cycle, random_machine, shuffled, words_up_to


def marking(letter, many):
    """Writes another letter for each so-many-th one, counted from the beginning."""
    other = "a" if letter == "b" else "b"
    return Machine("ab", "ab", cycle(many, 2), [[0, 0]], [["ab"]] * (many - 1) + [[letter + other]])


def turned():
    return Machine("ab", "ab", [[0, 0]], [[0, 0]], [["ba"]])


def all_to(letter):
    return Machine("ab", "ab", [[0, 0]], [[0, 0]], [[letter * 2]])


def book_of(alphabet, machines):
    book = Book(alphabet)
    for index, machine in enumerate(machines):
        book.insert(index, machine)
    return book


def forms(book):
    return [form(machine) for machine in book.passes()]


def plain_apply(machines, word):
    for machine in machines:
        word = run(machine, word)
    return word


def do_the_same(machines, others, length=6):
    letters = (machines + others)[0].reads
    return all(plain_apply(machines, word) == plain_apply(others, word) for word in words_up_to(letters, length))


class Case(unittest.TestCase):
    def check_refused(self, reason, call, *arguments, error=BookError):
        with self.assertRaises(error) as caught:
            call(*arguments)
        self.assertEqual(caught.exception.reason, reason)
        self.assertIsInstance(caught.exception, ForeaftError)

    def check_passes(self, book, machines):
        self.assertEqual(forms(book), [form(machine) for machine in machines])
        self.assertEqual(book.size(), len(machines))


class TestChanges(Case):
    def test_empty_book(self):
        for alphabet in ("a", "adt", "edcba"):
            book = Book(alphabet)
            self.assertEqual(book.alphabet, alphabet)
            self.check_passes(book, [])
            self.assertEqual(book.passes(), [])
            self.assertEqual(form(book.whole()), form(identity(alphabet)))
            self.assertEqual(book.apply(alphabet), alphabet)
            self.assertEqual(book.apply(""), "")
            self.assertEqual(book.trace(alphabet), [alphabet])
            self.assertEqual(book.idle_passes(), [])
            self.assertIs(book.undo(), False)
            self.check_refused("no such pass", book.remove, 0)
            self.check_refused("no such pass", book.move, 0, 0)
            self.check_refused("no such pass", book.can_swap, 0)
            self.check_refused("no such place", book.insert, 1, identity(alphabet))

    def test_insert(self):
        one, two, three = helpers.behind_a(), helpers.before_a(), turned()
        book = Book("ab")
        self.assertIsNone(book.insert(0, one))
        self.check_passes(book, [one])
        book.insert(1, two)
        self.check_passes(book, [one, two])
        book.insert(0, three)
        self.check_passes(book, [three, one, two])
        book.insert(1, two)
        self.check_passes(book, [three, two, one, two])
        book.insert(4, three)
        self.check_passes(book, [three, two, one, two, three])

    def test_passes_stay_as_they_are(self):
        # A pass is the machine that was inserted, not its least machine.
        machine = shuffled(random.Random(130), helpers.behind_a())
        self.check_passes(book_of("ab", [machine, machine]), [machine, machine])

    def test_insert_refused(self):
        fits, other = identity("ab"), identity("ba")
        full = book_of("ab", [fits] * 6)
        self.check_refused("no such place", full.insert, 7, fits)
        self.check_refused("no such place", full.insert, 7, other)
        self.check_refused("no such place", full.insert, 100, other)
        self.check_refused("too many passes", full.insert, 6, fits)
        self.check_refused("too many passes", full.insert, 0, other)
        self.check_passes(full, [fits] * 6)
        for many in range(6):
            book = book_of("ab", [fits] * many)
            self.check_refused("no such place", book.insert, many + 1, fits)
            self.check_refused("no such place", book.insert, many + 1, other)
            for index in range(many + 1):
                for machine in (
                    other, identity("abc"), Machine("ab", "ba", [[0, 0]], [[0, 0]], [["ab"]]),
                    Machine("ba", "ab", [[0, 0]], [[0, 0]], [["ab"]]), Machine("ab", "a", [[0, 0]], [[0, 0]], [["aa"]]),
                ):
                    self.check_refused("alphabets do not fit", book.insert, index, machine)
            self.check_passes(book, [fits] * many)

    def test_remove(self):
        one, two, three = helpers.behind_a(), helpers.before_a(), turned()
        for index in range(3):
            book = book_of("ab", [one, two, three])
            self.assertIsNone(book.remove(index))
            self.check_passes(book, [machine for at, machine in enumerate([one, two, three]) if at != index])
        book = book_of("ab", [one, two, three])
        for index in (3, 4, 100):
            self.check_refused("no such pass", book.remove, index)
        self.check_passes(book, [one, two, three])
        for _ in range(3):
            book.remove(0)
        self.check_refused("no such pass", book.remove, 0)

    def test_move(self):
        machines = [marking("a", 1), marking("a", 2), marking("a", 3), marking("b", 2)]
        for start in range(4):
            for end in range(4):
                book = book_of("ab", machines)
                self.assertIsNone(book.move(start, end))
                rest = machines[:start] + machines[start + 1:]
                expected = rest[:end] + [machines[start]] + rest[end:]
                self.check_passes(book, expected)
                self.assertEqual(forms(book)[end], form(machines[start]))
        book = book_of("ab", machines)
        for start, end in ((4, 0), (0, 4), (4, 4), (3, 4), (9, 9)):
            self.check_refused("no such pass", book.move, start, end)
        self.check_passes(book, machines)


class TestUndo(Case):
    def test_each_change(self):
        one, two = helpers.behind_a(), turned()
        book = Book("ab")
        book.insert(0, one)
        book.insert(1, two)
        book.move(0, 1)
        self.check_passes(book, [two, one])
        book.remove(0)
        self.check_passes(book, [one])
        for expected in ([two, one], [one, two], [one], []):
            self.assertIs(book.undo(), True)
            self.check_passes(book, expected)
        for _ in range(3):
            self.assertIs(book.undo(), False)
            self.check_passes(book, [])

    def test_moves_that_change_nothing(self):
        one, two = helpers.behind_a(), turned()
        book = book_of("ab", [one, one, two])
        book.move(1, 1)
        book.move(0, 1)
        book.move(2, 2)
        self.check_passes(book, [one, one, two])
        for expected in ([one, one, two], [one, one, two], [one, one, two], [one, one], [one], []):
            self.assertIs(book.undo(), True)
            self.check_passes(book, expected)
        self.assertIs(book.undo(), False)

    def test_what_is_refused_is_no_change(self):
        one = identity("ab")
        book = book_of("ab", [one] * 6)
        for call in (
            lambda: book.insert(7, one), lambda: book.insert(6, one), lambda: book.remove(6), lambda: book.move(0, 6),
            lambda: book.move(6, 0), lambda: book.can_swap(5),
        ):
            with self.assertRaises(BookError):
                call()
        self.assertIs(book.undo(), True)
        self.check_passes(book, [one] * 5)
        with self.assertRaises(BookError):
            book.insert(0, identity("ba"))
        self.assertIs(book.undo(), True)
        self.check_passes(book, [one] * 4)

    def test_asking_is_no_change(self):
        book = book_of("ab", [helpers.behind_a(), turned()])
        for ask in (
            book.passes, book.size, book.whole, book.idle_passes, book.copy, lambda: book.apply("ab"), lambda: book.trace("ab"),
            lambda: book.can_swap(0),
        ):
            ask()
        self.assertIs(book.undo(), True)
        self.check_passes(book, [helpers.behind_a()])

    def test_changes_behind_an_undo(self):
        one, two, three = helpers.behind_a(), turned(), helpers.before_a()
        book = book_of("ab", [one, two])
        book.undo()
        book.insert(0, three)
        self.check_passes(book, [three, one])
        for expected in ([one], []):
            self.assertIs(book.undo(), True)
            self.check_passes(book, expected)
        self.assertIs(book.undo(), False)

    def test_without_limit(self):
        machines = [marking("b", many) for many in range(1, 5)]
        book = book_of("ab", machines)
        shown = [forms(book)]
        for at in range(1500):
            book.move(at % 4, at * 7 % 4)
            shown.append(forms(book) if at % 50 == 49 else None)
        for at in range(1500, 0, -1):
            if shown[at] is not None:
                self.assertEqual(forms(book), shown[at])
            self.assertIs(book.undo(), True)
        self.check_passes(book, machines)
        for _ in range(4):
            self.assertIs(book.undo(), True)
        self.assertIs(book.undo(), False)

    def test_random_changes(self):
        machines = [marking("b", many) for many in range(1, 6)] + [turned()]
        for seed in range(40):
            source = random.Random(seed)
            books = [(Book("ab"), [[]])]
            for _ in range(60):
                book, states = source.choice(books)
                now = states[-1]
                kind = source.choice(["insert", "insert", "remove", "move", "undo", "copy"])
                index, other, machine = source.randint(0, 6), source.randint(0, 6), source.choice(machines)
                if kind == "insert":
                    if index > len(now):
                        self.check_refused("no such place", book.insert, index, machine)
                    elif len(now) == 6:
                        self.check_refused("too many passes", book.insert, index, machine)
                    else:
                        book.insert(index, machine)
                        states.append(now[:index] + [machine] + now[index:])
                elif kind == "remove" and index < len(now):
                    book.remove(index)
                    states.append(now[:index] + now[index + 1:])
                elif kind == "move" and index < len(now) and other < len(now):
                    book.move(index, other)
                    rest = now[:index] + now[index + 1:]
                    states.append(rest[:other] + [now[index]] + rest[other:])
                elif kind == "undo":
                    self.assertIs(book.undo(), len(states) > 1)
                    if len(states) > 1:
                        states.pop()
                elif kind == "copy" and len(books) < 4:
                    books.append((book.copy(), list(states)))
                for made, kept in books:
                    self.check_passes(made, kept[-1])
            for made, kept in books:
                for expected in kept[-2::-1]:
                    self.assertIs(made.undo(), True)
                    self.check_passes(made, expected)
                self.assertIs(made.undo(), False)


class TestCopy(Case):
    def test_same_passes_and_changes(self):
        one, two = helpers.behind_a(), turned()
        book = book_of("ab", [one, two])
        book.move(0, 1)
        other = book.copy()
        self.assertIs(type(other), Book)
        self.assertEqual(other.alphabet, "ab")
        self.check_passes(other, [two, one])
        for expected in ([one, two], [one], []):
            self.assertIs(other.undo(), True)
            self.check_passes(other, expected)
        self.assertIs(other.undo(), False)
        self.check_passes(book, [two, one])

    def test_apart(self):
        one, two, three = helpers.behind_a(), turned(), helpers.before_a()
        book = book_of("ab", [one, two])
        other = book.copy()
        other.remove(0)
        book.insert(0, three)
        self.check_passes(book, [three, one, two])
        self.check_passes(other, [two])
        book.undo()
        book.undo()
        book.insert(1, three)
        self.check_passes(book, [one, three])
        self.assertIs(other.undo(), True)
        self.check_passes(other, [one, two])
        self.assertIs(other.undo(), True)
        self.check_passes(other, [one])
        self.assertIs(other.undo(), True)
        self.assertIs(other.undo(), False)
        self.check_passes(book, [one, three])
        for expected in ([one], []):
            self.assertIs(book.undo(), True)
            self.check_passes(book, expected)

    def test_copy_of_an_empty_book(self):
        other = Book("adt").copy()
        self.check_passes(other, [])
        self.assertIs(other.undo(), False)
        other.insert(0, helpers.voiced_end())
        self.check_passes(other, [helpers.voiced_end()])


class TestOwnership(Case):
    def spoil(self, machine):
        machine.reads = "x"
        machine.writes = "x"
        machine.left[0][0] = 39
        machine.table[0][0] = "x"
        machine.right.clear()

    def test_what_was_inserted(self):
        machine = copied(helpers.behind_a())
        before = form(machine)
        book = Book("ab")
        book.insert(0, machine)
        book.insert(1, machine)
        self.assertEqual(form(machine), before)
        self.spoil(machine)
        self.check_passes(book, [helpers.behind_a()] * 2)
        self.assertEqual(book.apply("aaa"), "abb")
        book.undo()
        self.check_passes(book, [helpers.behind_a()])

    def test_what_passes_returned(self):
        book = book_of("ab", [helpers.behind_a(), turned()])
        other = book.copy()
        for made in (book, other):
            passes = made.passes()
            for machine in passes:
                self.spoil(machine)
            passes.clear()
        for made in (book, other):
            self.check_passes(made, [helpers.behind_a(), turned()])
            self.assertEqual(made.apply("aa"), "ba")
        # Also what is brought back.
        book.remove(0)
        self.spoil(book.passes()[0])
        book.undo()
        self.check_passes(book, [helpers.behind_a(), turned()])

    def test_what_the_others_returned(self):
        book = book_of("ab", [helpers.behind_a(), identity("ab")])
        self.spoil(book.whole())
        book.trace("aa").clear()
        book.idle_passes().append(9)
        self.check_passes(book, [helpers.behind_a(), identity("ab")])
        self.assertEqual(form(book.whole()), form(helpers.behind_a()))
        self.assertEqual(book.trace("aa"), ["aa", "ab", "ab"])
        self.assertEqual(book.idle_passes(), [1])
        empty = Book("ab")
        self.spoil(empty.whole())
        self.assertEqual(form(empty.whole()), form(identity("ab")))

    def test_an_inserted_pass_of_another_book(self):
        one = book_of("ab", [turned()])
        two = Book("ab")
        two.insert(0, one.passes()[0])
        one.remove(0)
        self.check_passes(two, [turned()])


class TestWords(Case):
    def test_apply_and_trace(self):
        book = book_of("adt", [helpers.voiced_between(), helpers.voiced_end()])
        self.assertEqual(book.trace("atad"), ["atad", "adad", "adat"])
        self.assertEqual(book.apply("atad"), "adat")
        self.assertEqual(book.trace(""), ["", "", ""])
        self.assertEqual(book.apply(""), "")
        book = book_of("ab", [turned()] * 6)
        self.assertEqual(book.trace("ab"), ["ab", "ba"] * 3 + ["ab"])

    def test_in_their_order(self):
        source = random.Random(131)
        for _ in range(40):
            machines = [random_machine(source, "ab", "ab", source.randint(1, 4), source.randint(1, 4)) for _ in range(source.randint(0, 6))]
            book = book_of("ab", machines)
            for _ in range(5):
                word = "".join(source.choice("ab") for _ in range(source.randint(0, 20)))
                self.assertEqual(book.apply(word), plain_apply(machines, word))
                self.assertEqual(book.trace(word), [plain_apply(machines[:at], word) for at in range(len(machines) + 1)])

    def test_too_many_states_for_whole(self):
        # Words are taken through the passes one by one, also where all passes together are refused.
        book = book_of("ab", [marking("b", 7), marking("b", 8), marking("a", 9)])
        self.check_refused("too many states", book.whole, error=MachineError)
        word = "ab" * 300
        self.assertEqual(book.apply(word), plain_apply(book.passes(), word))

    def test_long_words(self):
        book = book_of("adt", [helpers.voiced_between(), helpers.voiced_end()] * 3)
        self.assertEqual(book.apply("at" * 5000 + "d"), "ad" * 4999 + "at" + "t")


class TestWhole(Case):
    def test_point_34(self):
        book = Book("adt")
        book.insert(0, machine_of(Rules("adt", "d>t/_#")))
        book.insert(0, machine_of(Rules("adt", "t>d/a_a")))
        self.assertEqual(form(book.whole()), form(helpers.both_rules()))
        self.assertIs(book.can_swap(0), True)
        book.move(0, 1)
        self.assertEqual(form(book.whole()), form(helpers.both_rules()))

    def test_as_a_cascade(self):
        source = random.Random(132)
        for _ in range(40):
            machines = [random_machine(source, "ab", "ab", source.randint(1, 2), 1) for _ in range(source.randint(1, 3))]
            machines += [mirror(random_machine(source, "ab", "ab", source.randint(1, 2), 1))]
            made = book_of("ab", machines).whole()
            self.assertEqual(form(made), form(cascade(machines)))
            self.assertIs(is_least(made), True)

    def test_one_pass(self):
        machine = shuffled(random.Random(133), helpers.both_rules())
        self.assertEqual(form(book_of("adt", [machine]).whole()), form(helpers.both_rules()))
        large = random_machine(random.Random(134), "abc", "abc", 40, 40)
        self.assertEqual(form(book_of("abc", [large]).whole()), form(least(large)))

    def test_from_the_first_pass_on(self):
        # All passes together are as little as the last one, but the first two of them are refused.
        book = book_of("ab", [marking("b", 6), marking("b", 7), all_to("a")])
        self.check_refused("too many states", book.whole, error=MachineError)
        # Here the last two are too many together, but what the first two do is little.
        book.move(2, 1)
        self.assertEqual(form(book.whole()), form(cascade([all_to("a"), marking("b", 7)])))
        book.insert(3, marking("b", 6))
        self.check_refused("too many states", book.whole, error=MachineError)
        book.insert(3, all_to("b"))
        self.assertEqual(form(book.whole()), form(cascade([all_to("b"), marking("b", 6)])))

    def test_six_passes(self):
        book = book_of("ab", [turned()] * 6)
        self.assertEqual(form(book.whole()), form(identity("ab")))
        book = book_of("ab", [helpers.behind_a()] * 6)
        self.assertEqual(form(book.whole()), form(helpers.behind_a()))


class TestSwap(Case):
    def test_as_commutes(self):
        source = random.Random(135)
        told = {True: 0, False: 0}
        for _ in range(60):
            machines = [random_machine(source, "ab", "ab", source.randint(1, 2), source.randint(1, 2)) for _ in range(3)]
            if source.random() < 0.5:
                machines[1] = copied(machines[source.choice([0, 2])])
            book = book_of("ab", machines)
            for index in range(2):
                expected = do_the_same(machines[index:index + 2], machines[index:index + 2][::-1])
                self.assertIs(book.can_swap(index), expected)
                self.assertIs(commutes(machines[index], machines[index + 1]), expected)
                told[expected] += 1
        self.assertGreater(min(told.values()), 10)

    def test_equal_passes_and_the_identity(self):
        book = book_of("ab", [helpers.behind_a(), helpers.behind_a(), identity("ab"), helpers.before_a()])
        self.assertEqual([book.can_swap(index) for index in range(3)], [True, True, True])
        book.remove(2)
        self.assertEqual([book.can_swap(index) for index in range(2)], [True, False])

    def test_no_such_pass(self):
        for many in range(7):
            book = book_of("ab", [identity("ab")] * many)
            for index in range(7):
                if index + 1 < many:
                    self.assertIs(book.can_swap(index), True)
                else:
                    self.check_refused("no such pass", book.can_swap, index)

    def test_too_many_states(self):
        book = book_of("ab", [marking("b", 7), marking("b", 8), identity("ab")])
        self.check_refused("too many states", book.can_swap, 0, error=MachineError)
        self.assertIs(book.can_swap(1), True)
        self.check_refused("no such pass", book.can_swap, 2)


class TestIdle(Case):
    def test_examples(self):
        behind, before, same = helpers.behind_a(), helpers.before_a(), identity("ab")
        for machines, expected in (
            ([], []), ([same], [0]), ([behind], []), ([same, same], [0, 1]), ([behind, same], [1]), ([same, behind], [0]),
            ([behind, behind], [0, 1]), ([turned(), turned()], []), ([turned(), turned(), same], [2]),
            ([all_to("a"), behind], []), ([behind, all_to("a")], [0]), ([all_to("a"), all_to("b")], [0]),
            ([all_to("b"), behind], [1]), ([behind] * 6, [0, 1, 2, 3, 4, 5]), ([same] * 6, [0, 1, 2, 3, 4, 5]),
            ([turned()] * 6, []), ([behind, before, before, behind], [1, 2, 3]),
        ):
            book = book_of("ab", machines)
            found = book.idle_passes()
            plain = [
                index for index in range(len(machines))
                if do_the_same(machines, machines[:index] + machines[index + 1:], 7)
            ]
            self.assertEqual(found, plain)
            self.assertEqual(found, expected)

    def test_by_outputs(self):
        source = random.Random(136)
        told = {}
        kinds = [identity("ab"), turned(), helpers.behind_a(), helpers.before_a(), all_to("a"), marking("b", 2), marking("a", 2)]
        for _ in range(120):
            machines = [source.choice(kinds) for _ in range(source.randint(1, 5))]
            book = book_of("ab", machines)
            expected = [
                index for index in range(len(machines))
                if do_the_same(machines, machines[:index] + machines[index + 1:], 7)
            ]
            self.assertEqual(book.idle_passes(), expected)
            told[len(expected)] = told.get(len(expected), 0) + 1
        self.assertTrue(all(told.get(many, 0) > 5 for many in range(4)), told)

    def test_too_many_states(self):
        seven, eight, same = marking("b", 7), marking("b", 8), identity("ab")
        # All passes together are refused.
        book = book_of("ab", [seven, eight, same])
        self.check_refused("too many states", book.idle_passes, error=MachineError)
        # All passes together are not, but those without the second one are.
        book = book_of("ab", [seven, all_to("a"), eight])
        book.whole()
        self.check_refused("too many states", book.idle_passes, error=MachineError)
        book = book_of("ab", [all_to("a"), seven])
        self.assertEqual(book.idle_passes(), [])

    def test_passes_stay(self):
        book = book_of("ab", [helpers.behind_a(), identity("ab"), turned()])
        book.idle_passes()
        self.check_passes(book, [helpers.behind_a(), identity("ab"), turned()])


class TestAlphabets(Case):
    def test_fitting_machines(self):
        book = Book("adt")
        book.insert(0, recode(helpers.voiced_end(), "adt", "tda"))
        self.check_refused("alphabets do not fit", book.insert, 0, recode(helpers.voiced_end(), "dat", "tda"))
        self.assertEqual(book.size(), 1)


if __name__ == "__main__":
    unittest.main()
