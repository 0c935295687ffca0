import random
import unittest

from foreaft.errors import ForeaftError, PatternError
from foreaft.images import count_preimages
from foreaft.machines import Machine, form, identity, mirror, recode, run
from foreaft.patterns import Pattern, count_outputs, first_match, matches
from tests import helpers
from tests.helpers import copied, random_machine, shuffled, some_machines, words_up_to
from tests.readings import broken, described, random_pattern, refusal, sources


def plain_count(machine, words, length):
    """Point 25, word by word."""
    return sum(run(machine, word) in words for word in words_up_to(machine.reads, length) if len(word) == length)


class Case(unittest.TestCase):
    def check_refused(self, alphabet, text, place, reason):
        with self.assertRaises(PatternError) as caught:
            Pattern(alphabet, text)
        self.assertEqual((caught.exception.place, caught.exception.reason), (place, reason), text)
        self.assertIsInstance(caught.exception, ForeaftError)

    def check_describes(self, alphabet, text, words, most=4):
        pattern = Pattern(alphabet, text)
        found = [word for word in words_up_to(alphabet, most) if matches(pattern, word)]
        self.assertEqual(found, words, text)


class TestPattern(Case):
    def test_fields(self):
        pattern = Pattern("adt", "(a|d).*t?")
        self.assertEqual((pattern.alphabet, pattern.text), ("adt", "(a|d).*t?"))
        pattern = Pattern("b", "")
        self.assertEqual((pattern.alphabet, pattern.text), ("b", ""))

    def test_twelve_and_thirteen_characters(self):
        for text in ("a" * 12, "(((((())))))", "|" * 12, "a***********", "............", "ab|(a.)*b+?a"):
            self.assertEqual(len(text), 12)
            self.assertEqual(Pattern("ab", text).text, text)
            # Whatever the character with the index 12 is, and whatever is behind it.
            for more in "ab.|()*+?c!# \n":
                self.check_refused("ab", text + more, 12, "too long")
                self.check_refused("ab", text + more + "!)a", 12, "too long")

    def test_foreign_characters(self):
        for letter in "c!#_>/ A1\n\tz":
            for place in range(12):
                self.check_refused("ab", "a" * place + letter + "b" * 20, place, "unexpected")
                self.check_refused("ab", "a" * place + letter, place, "unexpected")
            self.check_refused("ab", "a" * 12 + letter, 12, "too long")

    def test_unexpected(self):
        for text, place in (
            ("*", 0), ("+a", 0), ("?", 0), (")", 0), ("a)", 1), ("(a))", 3), ("()b)", 3), ("|*", 1), ("a|+", 2), ("(?)", 1),
            ("(*", 1), ("a|b|)", 4), ("(a|*b)", 3), ("ab**)", 4), ("aaaaaaaaaaa)", 11), ("aaaaaaaaaaa)a", 11),
            ("aaaaaaaaaa|*", 11), ("((()))).", 6), ("acb", 1), ("a[b]", 1),
        ):
            self.check_refused("ab", text, place, "unexpected")

    def test_too_short(self):
        for text in ("(", "((", "(a", "(a|", "a(b)(", "(a*", "((a)", "((((((((((((", "aaaaaaaaaaa(", "a|(b|(a)"):
            self.check_refused("ab", text, len(text), "too short")
        # Room for the missing parentheses is not asked: the place is the end, and beyond 12 characters 12.
        self.check_refused("ab", "((((((((((((()", 12, "too long")
        self.check_refused("ab", "aaaaaaaaaaa(b)", 12, "too long")

    def test_first_of_several_reasons(self):
        self.check_refused("ab", "(*" + "a" * 20, 1, "unexpected")
        self.check_refused("ab", "(a)c(", 3, "unexpected")
        self.check_refused("ab", "(" + "a" * 20, 12, "too long")

    def test_by_the_grammar(self):
        told = {None: 0, "unexpected": 0, "too short": 0, "too long": 0}
        for source in sources(100, 1500):
            alphabet = source.choice(["ab", "cab", "a"])
            text = broken(source, random_pattern(source, alphabet, 12), alphabet + "z.|()*+?#_")
            if source.random() < 0.4:
                text += random_pattern(source, alphabet, 12)
            refused = refusal(alphabet, text)
            if refused is None:
                Pattern(alphabet, text)
            else:
                self.check_refused(alphabet, text, *refused)
            told[refused and refused[1]] += 1
        self.assertGreater(min(told.values()), 40, told)


class TestMatches(Case):
    def test_empty_pattern_and_branches(self):
        for text in ("", "()", "|", "()()", "(|)*", "()+", "()?", "(())", "||", "(()|())*+?"):
            self.check_describes("ab", text, [""])
        self.check_describes("ab", "a|", ["", "a"])
        self.check_describes("ab", "|a", ["", "a"])
        self.check_describes("ab", "a||b", ["", "a", "b"])
        self.check_describes("ab", "(|a)b", ["b", "ab"])
        self.check_describes("ab", "a()b", ["ab"])

    def test_letters_and_branches(self):
        self.check_describes("ab", "ab", ["ab"])
        self.check_describes("ba", "..", ["bb", "ba", "ab", "aa"])
        self.check_describes("ab", "a|bb", ["a", "bb"])
        self.check_describes("ab", "(a|b)b", ["ab", "bb"])
        self.check_describes("ab", "a|b*", ["", "a", "b", "bb", "bbb", "bbbb"])
        self.check_describes("abc", "a.c", ["aac", "abc", "acc"])

    def test_signs(self):
        self.check_describes("ab", "a*", ["", "a", "aa", "aaa", "aaaa"])
        self.check_describes("ab", "a+", ["a", "aa", "aaa", "aaaa"])
        self.check_describes("ab", "a?", ["", "a"])
        self.check_describes("ab", "ba*", ["b", "ba", "baa", "baaa"])
        self.check_describes("ab", "(ba)+", ["ba", "baba"])
        self.check_describes("ab", "(a|bb)*", [
            "", "a", "aa", "bb", "aaa", "abb", "bba", "aaaa", "aabb", "abba", "bbaa", "bbbb",
        ])

    def test_signs_one_behind_another(self):
        many = ["", "a", "aa", "aaa", "aaaa"]
        for text in ("a*?", "a**", "a*+", "a+*", "a?*", "a+?", "a?+", "a?*+", "a+?*"):
            self.check_describes("ab", text, many)
        self.check_describes("ab", "a++", many[1:])
        self.check_describes("ab", "a??", many[:2])
        self.check_describes("ab", "b(a+)?", ["b", "ba", "baa", "baaa"])
        self.check_describes("ab", "(a?b?)+a", [word for word in words_up_to("ab", 4) if word[-1:] == "a"])

    def test_by_sets_of_words(self):
        for source in sources(101, 250):
            alphabet = source.choice(["ab", "ba", "cab", "a"])
            text = random_pattern(source, alphabet, 12)
            most = {1: 9, 2: 6, 3: 4}[len(alphabet)]
            words = described(alphabet, text, most)
            pattern = Pattern(alphabet, text)
            for word in words_up_to(alphabet, most):
                self.assertIs(matches(pattern, word), word in words, (text, word))

    def test_long_words(self):
        pattern = Pattern("ab", ".*a.........")
        self.assertIs(matches(pattern, "b" * 20000 + "ab" * 5), True)
        self.assertIs(matches(pattern, "a" * 20000 + "ba" * 5), False)
        pattern = Pattern("abcde", "(.......b+)*")
        self.assertIs(matches(pattern, "acdeacdbb" * 5000), True)
        self.assertIs(matches(pattern, "acdeacdbb" * 5000 + "a"), False)


class TestFirstMatch(Case):
    def test_examples(self):
        for alphabet, text, word in (
            ("ab", "", ""), ("ab", "()", ""), ("ab", "a", "a"), ("ab", ".", "a"), ("ba", ".", "b"), ("ab", "b|a", "a"),
            ("ba", "b|a", "b"), ("ab", "bb|aaa", "bb"), ("ab", "b+", "b"), ("ab", "b*", ""), ("ab", "(b|ab)(b|a)", "ba"),
            ("ab", "(b|a)(ab|b)", "ab"), ("ba", "(ab|ba)*.a?", "b"), ("ab", "............", "aaaaaaaaaaaa"),
            ("ab", "bbb|bba|bab", "bab"), ("abcde", "(e|d).(c|b)+", "dab"), ("ab", "(b|aa)+(b|a)", "ba"),
            ("ab", ".*b.........", "baaaaaaaaa"), ("ba", "(a.|b.a)+", "ab"),
        ):
            self.assertEqual(first_match(Pattern(alphabet, text)), word, text)

    def test_by_trying_all_words(self):
        for source in sources(102, 250):
            alphabet = source.choice(["ab", "ba", "a", "cab"])
            text = random_pattern(source, alphabet, 12)
            pattern = Pattern(alphabet, text)
            word = first_match(pattern)
            self.assertIs(matches(pattern, word), True)
            if len(word) <= 7:
                self.assertEqual(next(other for other in words_up_to(alphabet, 7) if matches(pattern, other)), word, text)


class TestCountOutputs(Case):
    def test_word_by_word(self):
        told = {True: 0, False: 0}
        for source in sources(103, 200):
            machine = next(some_machines(source.randrange(1000000), 1, ((source.randint(1, 3), source.randint(1, 3)),)))
            alphabet = machine.writes
            text = random_pattern(source, alphabet, source.choice([4, 8, 12]))
            most = {1: 8, 2: 6, 3: 4}[len(machine.reads)]
            words = described(alphabet, text, most)
            pattern = Pattern(alphabet, text)
            for length in range(most + 1):
                expected = plain_count(machine, words, length)
                self.assertEqual(count_outputs(machine, pattern, length), expected, (text, length))
                told[0 < expected < len(machine.reads) ** length] += 1
        self.assertGreater(min(told.values()), 100, told)

    def test_length_0(self):
        for machine in (identity("ab"), helpers.both_rules(), helpers.behind_a()):
            for text, expected in (("", 1), ("a*", 1), ("a", 0), (".+", 0), ("(a|)a?", 1)):
                self.assertEqual(count_outputs(machine, Pattern(machine.writes, text), 0), expected)

    def test_length_200(self):
        for letters in ("a", "ab", "abcde"):
            many = len(letters)
            same = identity(letters)
            for text, expected in (
                (".*", many ** 200), (".*a", many ** 199), ("a.*", many ** 199), (".*a.........", many ** 199),
                (".........a.*", many ** 199), ("a*", 1), ("............", 0), ("(..)*", many ** 200), ("(...)*", 0),
                ("(.....)*|a*", many ** 200), (".*a.*", many ** 200 - (many - 1) ** 200), ("", 0),
                ("(a.)+", many ** 100), ("a+.a*", 1 + 199 * (many - 1)),
            ):
                self.assertEqual(count_outputs(same, Pattern(letters, text), 200), expected, text)

    def test_few_outputs(self):
        # Sums modulo 2: each output has one word. F: no output has two a side by side, and each a stays only behind a b.
        sums = helpers.sums()
        self.assertEqual(count_outputs(sums, Pattern("xy", ".*"), 200), 2 ** 200)
        self.assertEqual(count_outputs(sums, Pattern("xy", "x*y*"), 200), 201)
        behind = helpers.behind_a()
        self.assertEqual(count_outputs(behind, Pattern("ab", ".*"), 200), 2 ** 200)
        self.assertEqual(count_outputs(behind, Pattern("ab", ".*aa.*"), 200), 0)
        self.assertEqual(count_outputs(behind, Pattern("ab", "ab*"), 200), 200)
        self.assertEqual(count_outputs(mirror(behind), Pattern("ab", "b*a"), 200), 200)
        self.assertEqual(count_outputs(helpers.both_rules(), Pattern("adt", ".*d"), 200), 0)

    def test_one_word(self):
        for source in sources(104, 25):
            machine = random_machine(source, "ab", "ab", source.randint(1, 6), source.randint(1, 6))
            word = "".join(source.choice("ab") for _ in range(source.randint(0, 12)))
            self.assertEqual(count_outputs(machine, Pattern("ab", word), len(word)), count_preimages(machine, word))

    def test_parts_add_up(self):
        # The second pattern describes just those words that the first one does not.
        for text, rest in ((".*ab.*", "(b|c|a+c)*a*"), (".*b..", ".*(a|c).."), ("(..)*", ".(..)*")):
            for source in sources(105, 6):
                machine = random_machine(source, "abc", "abc", source.randint(1, 6), source.randint(1, 6))
                one = count_outputs(machine, Pattern("abc", text), 200)
                other = count_outputs(machine, Pattern("abc", rest), 200)
                self.assertEqual(one + other, 3 ** 200)

    def test_same_machines(self):
        source = random.Random(106)
        for machine in some_machines(107, 40):
            pattern = Pattern(machine.writes, random_pattern(source, machine.writes, 9))
            self.assertEqual(
                count_outputs(machine, pattern, 60), count_outputs(shuffled(source, machine), pattern, 60),
            )

    def test_from_both_ends(self):
        # Mirrored, with a pattern that describes the reversed words.
        for one, other in ((".*a..b", "b..a.*"), ("(ab|b)+a?", "a?(ba|b)+"), (".+b......a.+", ".+a......b.+")):
            for machine in some_machines(108, 20):
                machine = recode(machine, "ab", "abab"[:len(machine.writes)])
                self.assertEqual(
                    count_outputs(machine, Pattern("ab", one), 70), count_outputs(mirror(machine), Pattern("ab", other), 70),
                )

    def test_forty_states(self):
        source = random.Random(109)
        machine = random_machine(source, "abcde", "abcde", 40, 40)
        total = sum(count_outputs(machine, Pattern("abcde", ".*" + letter + "......."), 200) for letter in "abcde")
        self.assertEqual(total, 5 ** 200)
        self.assertEqual(count_outputs(machine, Pattern("abcde", ".*"), 200), 5 ** 200)
        for text in (".*a", "(a|.b)*c?", "d*(e.)+", "..?.?.?"):
            words = described("abcde", text, 4)
            for length in range(5):
                self.assertEqual(count_outputs(machine, Pattern("abcde", text), length), plain_count(machine, words, length))

    def test_other_alphabets(self):
        machine = Machine("ab", "xyz", [[0, 1], [1, 0]], [[0, 0]], [["xy"], ["zx"]])
        for text in ("x*", "(x|z)+", ".*y.*", "z?.+"):
            words = described("xyz", text, 6)
            for length in range(7):
                self.assertEqual(count_outputs(machine, Pattern("xyz", text), length), plain_count(machine, words, length))


class TestArguments(unittest.TestCase):
    def test_arguments_stay(self):
        machine = copied(helpers.both_rules())
        before = form(machine)
        pattern = Pattern("adt", "(a|d)*t.?")
        for _ in range(2):
            self.assertEqual(count_outputs(machine, pattern, 9), count_outputs(helpers.both_rules(), Pattern("adt", "(a|d)*t.?"), 9))
            self.assertIs(matches(pattern, "adta"), True)
            self.assertEqual(first_match(pattern), "t")
        self.assertEqual(form(machine), before)
        self.assertEqual((pattern.alphabet, pattern.text), ("adt", "(a|d)*t.?"))


if __name__ == "__main__":
    unittest.main()
