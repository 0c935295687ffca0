import random
import unittest

from foreaft.cascades import commutes, compose
from foreaft.errors import ForeaftError, MachineError, RuleError
from foreaft.least import counts, is_least
from foreaft.machines import Machine, form, identity, run
from foreaft.rules import Rules, applied, machine_of, which
from foreaft.sides import look_ahead
from tests import helpers
from tests.helpers import words_up_to
from tests.readings import Reading, broken, random_pattern, random_rules, rules_refusal, sources

ADT = "d>t/_#\nt>d/a_a"


def told_apart(alphabet, text, side, most, longer):
    """Point 29: how many of the words up to a length can be told apart by up to so many letters more."""
    reading = Reading(alphabet, text, most + longer)
    fits_side = reading.fits_front if side == "front" else reading.fits_behind
    numbers = range(len(reading.rules))
    fits = {}
    rows = set()
    for word in words_up_to(alphabet, most):
        told = []
        for more in words_up_to(alphabet, longer):
            read = word + more if side == "front" else more + word
            if read not in fits:
                fits[read] = tuple(fits_side(number, read) for number in numbers)
            told.append(fits[read])
        rows.add(tuple(told))
    return len(rows)


def both_sides(rules):
    """The same rules with fronts and behinds as they are, and from the other end."""
    lines = []
    for line in rules:
        head, front, behind = line[:4], line[4:].partition("_")[0], line[4:].partition("_")[2]
        marks = "#" if front.startswith("#") else ""
        others = "#" if behind.endswith("#") else ""
        lines.append(head + others + reversed_pattern(behind.rstrip("#")) + "_" + reversed_pattern(front.lstrip("#")) + marks)
    return "\n".join(rules), "\n".join(lines)


def reversed_pattern(text):
    """The pattern of the reversed words, for patterns of letters, or of one pair of parentheses with a sign behind it."""
    if text.startswith("("):
        return "(" + text[1:-2][::-1] + ")" + text[-1]
    return text[::-1]


class Case(unittest.TestCase):
    def check_refused(self, alphabet, text, line, place, reason):
        with self.assertRaises(RuleError) as caught:
            Rules(alphabet, text)
        refused = caught.exception
        self.assertEqual((refused.line, refused.place, refused.reason), (line, place, reason), text)
        self.assertIsInstance(refused, ForeaftError)

    def check_too_many(self, alphabet, text):
        with self.assertRaises(MachineError) as caught:
            machine_of(Rules(alphabet, text))
        self.assertEqual(caught.exception.reason, "too many states")


class TestReading(Case):
    def test_fields(self):
        rules = Rules("adt", ADT)
        self.assertEqual((rules.alphabet, rules.text), ("adt", ADT))

    def test_rules(self):
        for line in (
            "a>b/_", "a>a/_", "a>b/#_", "a>b/_#", "a>b/#_#", "a>b/a_b", "b>a/#(a|b)*_.+#", "a>b/|_|", "a>b/()_()#",
            "a>b/" + "a" * 12 + "_" + "b" * 12, "a>b/#" + "a" * 12 + "_" + "b" * 12 + "#",
            "a>b/(((((())))))_((()))*+?", "a>b/#|_#",
        ):
            self.assertEqual(Rules("ab", line).text, line)

    def test_number_of_lines(self):
        for many in range(1, 7):
            Rules("ab", "\n".join(["a>b/a_"] * many))
        for many in range(7, 10):
            self.check_refused("ab", "\n".join(["a>b/a_"] * many), 6, 0, "too many rules")
        # Whatever the seventh line is, also if it is empty.
        for line in ("", "x", "a>b/_", "a>b/" + "a" * 20):
            self.check_refused("ab", "a>b/_\n" * 6 + line, 6, 0, "too many rules")
        # One of the six before it comes first.
        self.check_refused("ab", "a>b/_\n" * 5 + "a>b/\n" + "a>b/_", 5, 4, "too short")
        self.check_refused("ab", "a>b/_\nc>b/_\n" + "a>b/_\n" * 9, 1, 0, "unexpected")

    def test_empty_lines(self):
        self.check_refused("ab", "", 0, 0, "too short")
        self.check_refused("ab", "\n", 0, 0, "too short")
        self.check_refused("ab", "\na>b/_", 0, 0, "too short")
        for many in range(1, 6):
            self.check_refused("ab", "a>b/_\n" * many, many, 0, "too short")
        self.check_refused("ab", "a>b/_\n\na>b/_", 1, 0, "too short")

    def test_too_short(self):
        for line in (
            "a", "a>", "a>b", "a>b/", "a>b/#", "a>b/a", "a>b/#a*", "a>b/(", "a>b/((a)", "a>b/a_(", "a>b/_a|(b", "a>b/#_(",
            "a>b/aaaaaaaaaaaa", "a>b/#aaaaaaaaaaaa", "a>b/((((((((((((", "a>b/_((((((((((((", "a>b/aaaaaaaaaaa(",
        ):
            self.check_refused("ab", line, 0, len(line), "too short")
            self.check_refused("ab", "a>b/b_a\n" + line, 1, len(line), "too short")
            self.check_refused("ab", line + "\na>b/_", 0, len(line), "too short")

    def test_unexpected(self):
        for line, place in (
            ("c>b/_", 0), (" a>b/_", 0), ("ab/_", 1), ("a=b/_", 1), ("a>c/_", 2), ("a>/_", 2), ("a>ba/_", 3), ("a>b_", 3),
            ("a>b/c_", 4), ("a>b/*_", 4), ("a>b/##_", 5), ("a>b/a#_", 5), ("a>b/#a#_", 6), ("a>b/a)_", 5), ("a>b/#*_", 5),
            ("a>b/(_)_", 5), ("a>b/(a_", 6), ("a>b/(#)_", 5), ("a>b/((a)#", 8), ("a>b/__", 5), ("a>b/_a_", 6), ("a>b/_#a", 6),
            ("a>b/_##", 6), ("a>b/_#_", 6), ("a>b/_a##", 7), ("a>b/_a# ", 7), ("a>b/_c", 5), ("a>b/_+", 5), ("a>b/_a)", 6),
            ("a>b/_(#)", 6), ("a>b/_(a_)", 7), ("a>b/_(a|#", 8), ("a>b/>_", 4), ("a>b//_", 4), ("a>b/_\r", 5), ("A>b/_", 0),
            ("a>b/" + "a" * 12 + "#_", 16), ("a>b/_" + "a" * 12 + "_", 17), ("a>b/_" + "a" * 12 + "#a", 18),
            ("a>b/" + "a" * 11 + "c", 15), ("a>b/_" + "a" * 11 + "c" * 9, 16), ("a>b/#" + "a" * 11 + ")", 16),
            ("a>b/" + "(" * 11 + "_", 15), ("a>b/_" + "(" * 11 + "#", 16),
        ):
            self.check_refused("ab", line, 0, place, "unexpected")
            self.check_refused("ab", "a>b/_\na>b/_\n" + line + "\nx", 2, place, "unexpected")

    def test_too_long(self):
        for letter in "ab.|()*+?c!> ":
            self.check_refused("ab", "a>b/" + "a" * 12 + letter + "_", 0, 16, "too long")
            self.check_refused("ab", "a>b/#" + "a" * 12 + letter, 0, 17, "too long")
            self.check_refused("ab", "a>b/_" + "a" * 12 + letter, 0, 17, "too long")
            self.check_refused("ab", "a>b/a_" + "a" * 12 + letter + "#", 0, 18, "too long")
        # Where a parenthesis is open, "_" and "#" do not end the pattern.
        for letter in "ab)_#":
            self.check_refused("ab", "a>b/(" + "a" * 11 + letter + ")_", 0, 16, "too long")
            self.check_refused("ab", "a>b/#(" + "a" * 11 + letter, 0, 17, "too long")
            self.check_refused("ab", "b>a/_\na>b/_(" + "a" * 11 + letter, 1, 17, "too long")

    def test_by_the_grammar(self):
        told = {None: 0, "unexpected": 0, "too short": 0, "too long": 0, "too many rules": 0}
        for source in sources(110, 900):
            alphabet = source.choice(["ab", "cab", "a"])
            text = random_rules(source, alphabet, source.choice([1, 1, 2, 3, 6, 7]), source.choice([2, 4, 12, 14]))
            text = broken(source, text, alphabet + "z.|()*+?#_>/\n")
            refused = rules_refusal(alphabet, text)
            if refused is None:
                Rules(alphabet, text)
            else:
                self.check_refused(alphabet, text, *refused)
            told[refused and refused[2]] += 1
        self.assertGreater(min(told.values()), 25, told)


class TestApplied(Case):
    def check(self, alphabet, text, word, output, numbers=None):
        rules = Rules(alphabet, text)
        self.assertEqual(applied(rules, word), output, (text, word))
        if numbers is not None:
            self.assertEqual(which(rules, word), numbers, (text, word))
        self.assertEqual(Reading(alphabet, text, len(word)).applied(word), output)

    def test_point_34(self):
        self.check("adt", ADT, "atad", "adat", [None, 1, None, 0])
        self.check("adt", ADT, "", "", [])
        self.check("adt", ADT, "atat", "adat", [None, 1, None, None])
        self.check("adt", "d>t/_#", "dad", "dat", [None, None, 0])

    def test_all_places_at_once(self):
        # Each a behind an a, as the letters were: the second one is not replaced first.
        self.check("ab", "a>b/a_", "aaaa", "abbb", [None, 0, 0, 0])
        self.check("ab", "a>b/_a", "aaaa", "bbba", [0, 0, 0, None])
        self.check("ab", "a>b/_\nb>a/_", "abba", "baab", [0, 1, 1, 0])
        self.check("abc", "a>b/_\nb>c/_\nc>a/_", "abc", "bca", [0, 1, 2])

    def test_first_rule(self):
        self.check("abc", "a>b/_\na>c/_", "aa", "bb", [0, 0])
        self.check("abc", "a>b/b_\na>c/_", "aba", "cbb", [1, None, 0])
        # A rule that changes nothing hides those behind it.
        self.check("ab", "a>a/b_\na>b/_", "aba", "bba", [1, None, 0])

    def test_fronts(self):
        self.check("ab", "a>b/_", "aa", "bb", [0, 0])
        self.check("ab", "a>b/#_", "aa", "ba", [0, None])
        self.check("ab", "a>b/#a_", "aaa", "aba", [None, 0, None])
        self.check("ab", "a>b/b*_", "aba", "bbb")
        self.check("ab", "a>b/#b*_", "bbaa", "bbba", [None, None, 0, None])
        self.check("ab", "a>b/()_", "aa", "bb")
        self.check("ab", "a>b/#()_", "aa", "ba")
        self.check("ab", "a>b/|b_", "aba", "bbb")
        self.check("ab", "a>b/#|b_", "baa", "bba")
        self.check("ab", "a>b/#(..)*_", "aaaaa", "babab")
        self.check("ab", "a>b/(..)+_", "aaaaa", "aabbb")
        self.check("ab", "a>b/.*_", "aba", "bbb")
        self.check("ab", "a>b/ba|ab_", "baaba", "babbb")

    def test_behinds(self):
        self.check("ab", "a>b/_#", "aa", "ab", [None, 0])
        self.check("ab", "a>b/_a#", "aaa", "aba", [None, 0, None])
        self.check("ab", "a>b/_b*", "aba", "bbb")
        self.check("ab", "a>b/_b*#", "aabb", "abbb")
        self.check("ab", "a>b/_()", "aa", "bb")
        self.check("ab", "a>b/_()#", "aa", "ab")
        self.check("ab", "a>b/_|b#", "aaba", "aabb")
        self.check("ab", "a>b/_(..)*#", "aaaaa", "babab")
        self.check("ab", "a>b/_ab", "aabab", "babab")
        self.check("ab", "a>b/_(ab)+#", "aabab", "babab")

    def test_both_sides(self):
        self.check("ab", "a>b/#_#", "a", "b")
        self.check("ab", "a>b/#_#", "aa", "aa")
        self.check("ab", "a>b/#b_b#", "bab", "bbb")
        self.check("ab", "a>b/#b_b#", "babb", "babb")
        self.check("ab", "a>b/b_b", "babab", "bbbbb")
        self.check("abc", "a>c/b+_#\na>b/#._.\na>c/b_b", "aababa", "abbcbc")

    def test_by_sets_of_words(self):
        changed = 0
        for source in sources(111, 160):
            alphabet = source.choice(["ab", "ba", "cab", "a"])
            text = random_rules(source, alphabet, source.randint(1, 6), source.choice([2, 4, 12]))
            rules = Rules(alphabet, text)
            most = {1: 9, 2: 6, 3: 4}[len(alphabet)]
            reading = Reading(alphabet, text, most)
            for word in words_up_to(alphabet, most):
                self.assertEqual(which(rules, word), reading.which(word), (text, word))
                self.assertEqual(applied(rules, word), reading.applied(word), (text, word))
                changed += applied(rules, word) != word
        self.assertGreater(changed, 1000)

    def test_long_words(self):
        rules = Rules("abc", "a>b/c_\nb>c/#(abc)*a_(cab)*c#")
        word = "abc" * 20000
        self.assertEqual(applied(rules, word), "acc" + "bcc" * 19999)
        numbers = which(rules, word)
        self.assertEqual(numbers[:6], [None, 1, None, 0, 1, None])
        self.assertEqual(len(numbers), 60000)


class TestMachineOf(Case):
    def test_point_34(self):
        one, two = machine_of(Rules("adt", "d>t/_#")), machine_of(Rules("adt", "t>d/a_a"))
        self.assertEqual(form(one), form(helpers.voiced_end()))
        self.assertEqual(form(two), form(helpers.voiced_between()))
        both = machine_of(Rules("adt", ADT))
        self.assertEqual(form(both), form(helpers.both_rules()))
        self.assertEqual(form(compose(two, one)), form(both))
        self.assertEqual(run(both, "atad"), "adat")
        self.assertEqual(look_ahead(both), 1)
        self.assertIs(commutes(one, two), True)

    def test_point_35(self):
        self.assertEqual(form(machine_of(Rules("ab", "a>b/a_"))), form(helpers.behind_a()))
        self.assertEqual(form(machine_of(Rules("ab", "a>b/_a"))), form(helpers.before_a()))

    def test_rules_that_change_nothing(self):
        for text in ("a>a/_", "a>a/b_\nb>b/#a*_b", "a>a/_\na>b/b_", "b>b/_#\na>a/b...._"):
            self.assertEqual(form(machine_of(Rules("ab", text))), form(identity("ab")))
        self.check_too_many("ab", "b>b/a..........._")

    def test_as_the_rules(self):
        for source in sources(112, 160):
            alphabet = source.choice(["ab", "ba", "cab", "a"])
            text = random_rules(source, alphabet, source.randint(1, 4), source.choice([2, 4, 6]))
            rules = Rules(alphabet, text)
            most = {1: 12, 2: 7, 3: 5}[len(alphabet)]
            made = machine_of(rules)
            self.assertIs(is_least(made), True)
            self.assertEqual((made.reads, made.writes), (alphabet, alphabet))
            for word in words_up_to(alphabet, most):
                self.assertEqual(run(made, word), applied(rules, word), (text, word))

    def test_hidden_automata_are_large(self):
        # Read one letter after the other these have thousands of states, but few that can be told apart.
        for front in ("(|a)........", "a?..........", "(a.|.)*.*...", "|a..........", "(.*a)?......", "(a|b|.)*.a?b"):
            rules = Rules("ab", f"a>b/{front}_\nb>a/_{front}")
            made = machine_of(rules)
            for word in words_up_to("ab", 8):
                self.assertEqual(run(made, word), applied(rules, word), (front, word))
        text = "\n".join(f"a>b/{letter}?.........._..........{letter}?" for letter in "abcdea")
        self.assertEqual(counts(machine_of(Rules("abcde", text))), (11, 11))

    def test_hundred_words_told_apart(self):
        # A rule that always applies hides the others. Rounds of 9, 5 and 2 letters, behind so many others.
        rules = ["a>a/_", "a>b/#(aaaaaaaaa)*_", "a>b/#(aaaaa)*_", "a>b/#(aa)*_"]
        for tail, many in ((8, 99), (9, 100), (10, 101), (11, 102)):
            lines = [line.replace("b", "a") for line in rules + [f"a>b/#{'a' * tail}_"]]
            for text, side in zip(both_sides(lines), ("front", "behind")):
                if many <= 100:
                    self.assertEqual(form(machine_of(Rules("a", text))), form(identity("a")))
                else:
                    self.check_too_many("a", text)
                if tail == 9:
                    self.assertEqual(told_apart("a", text, side, 100, 100), 100)
                if tail == 10:
                    self.assertEqual(told_apart("a", text, side, 101, 100), 101)

    def test_told_apart_by_any_rule(self):
        # The last letters, and how many they are: neither rule alone tells so many words apart.
        for many, one, other in (
            (64, "a.....", "a....."), (128, "a......", "a......"), (63, "a....", "#...."), (95, "a....", "#....."),
            (127, "a....", "#......"), (63, "#....", "a...."),
        ):
            self.assertEqual(told_apart("ab", f"a>b/{one}_\nb>a/{other}_", "front", 8, 7), many)
            for text in both_sides(["a>a/_", "b>b/_", f"a>b/{one}_", f"b>a/{other}_"]):
                if many <= 100:
                    self.assertEqual(form(machine_of(Rules("ab", text))), form(identity("ab")), text)
                else:
                    self.check_too_many("ab", text)

    def test_exactly_when_too_many(self):
        told = {True: 0, False: 0}
        near = 0
        patterns = ["a" * many for many in range(6, 13)] + ["(" + "a" * many + ")*" for many in range(1, 10)]
        patterns += ["(aa|aaaaa)+", "(aaaa)*aa", "a?(aaa)+", "(aaa)*a(aa)*", "aaa(aaaaa)*", "(aa)+|(aaa)*"]
        for source in sources(113, 200):
            picked = [source.choice(patterns) for _ in range(source.randint(3, 5))]
            many = told_apart("a", "\n".join(f"a>a/#{text}_" for text in picked), "front", 130, 20)
            for side in ("front", "behind"):
                # The first rule hides the others, so that the least machine is small.
                lines = ["a>a/_"] + [f"a>a/#{text}_" if side == "front" else f"a>a/_{text}#" for text in picked]
                if many > 100:
                    self.check_too_many("a", "\n".join(lines))
                else:
                    self.assertEqual(form(machine_of(Rules("a", "\n".join(lines)))), form(identity("a")), lines)
            told[many > 100] += 1
            near += 80 <= many <= 120
        self.assertGreater(min(told.values()), 15, told)
        self.assertGreater(near, 5)

    def test_too_many_by_several_letters(self):
        for text in (
            "a>b/(a|b.)...._", "a>b/b?.a..._\nb>a/#b?b?._", "a>b/aa?...._\nb>a/#a?_", "a>b/b*a....._\nb>a/#.a_",
            "a>b/(a|ab)....._\nb>a/#..._", "a>b/a...b.._", "a>b/b*a......_", "a>b/(a|b)a...._\nb>a/#....._",
        ):
            many = told_apart("ab", text, "front", 9, 7)
            if many > 100:
                self.check_too_many("ab", "a>a/_\nb>b/_\n" + text)
            else:
                self.assertEqual(form(machine_of(Rules("ab", "a>a/_\nb>b/_\n" + text))), form(identity("ab")), text)

    def test_forty_states(self):
        # Rounds of 8 and of 5 letters, and a first letter that is told from the others.
        rules = ["a>b/#(........)*_", "a>b/#(.....)*_"]
        for text, many in zip(both_sides(rules), ((40, 1), (1, 40))):
            made = machine_of(Rules("ab", text))
            self.assertEqual(counts(made), many)
            for word in ("a" * 50, "ab" * 30):
                self.assertEqual(run(made, word), applied(Rules("ab", text), word))
        for text in both_sides(rules + ["b>a/#_"]):
            self.check_too_many("ab", text)
        for text in both_sides(["a>b/#(.........)*_", "a>b/#(.....)*_"]):
            self.check_too_many("ab", text)

    def test_both_sides_forty(self):
        made = machine_of(Rules("ab", "a>b/#(........)*_(.....)*#"))
        self.assertEqual(counts(made), (8, 5))
        made = machine_of(Rules("ab", "a>b/#(........)*_\na>b/#(.....)*_\nb>a/_(........)*#\nb>a/_(.....)*#"))
        self.assertEqual(counts(made), (40, 40))

    def test_words_told_apart_that_do_not_matter(self):
        # More than 40 can be told apart, but the least machine has few states.
        made = machine_of(Rules("ab", "a>a/_\na>b/a....._\nb>a/a_"))
        self.assertEqual(form(made), form(machine_of(Rules("ab", "b>a/a_"))))
        self.assertEqual(counts(made), (2, 1))


class TestArguments(unittest.TestCase):
    def test_rules_stay(self):
        rules = Rules("adt", ADT)
        for _ in range(2):
            made = machine_of(rules)
            self.assertEqual(form(made), form(helpers.both_rules()))
            self.assertEqual(applied(rules, "atad"), "adat")
            numbers = which(rules, "atad")
            self.assertEqual(numbers, [None, 1, None, 0])
            # What was returned is changed; the rules do the same as before.
            numbers.clear()
            for rows in (made.left, made.right, made.table):
                rows[0][0] = "spoiled"
                rows.append("more")
        self.assertEqual((rules.alphabet, rules.text), ("adt", ADT))


if __name__ == "__main__":
    unittest.main()
