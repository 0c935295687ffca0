import unittest
from itertools import permutations

from foreaft.words import comes_before, is_alphabet, is_word
from tests.helpers import words_up_to


class Odd:
    """A value that answers every question badly."""

    def __len__(self):
        raise RuntimeError("asked")

    def __iter__(self):
        raise RuntimeError("asked")

    def __eq__(self, other):
        raise RuntimeError("asked")

    __hash__ = None


def other_kinds():
    return [
        None, True, False, 0, 1, 5, -1, 2.5, float("nan"), b"ab", b"", bytearray(b"ab"), ["a", "b"], [], ("a", "b"),
        (), {"a", "b"}, {"a": "b"}, {}, frozenset("ab"), range(2), object(), Odd(), Odd, str, len, iter("ab"),
        (letter for letter in "ab"), [["ab"]], ("ab",),
    ]


class TestAlphabets(unittest.TestCase):
    def test_alphabets(self):
        for thing in ("a", "z", "ab", "ba", "xyz", "adt", "zyxwv", "abcde"):
            self.assertIs(is_alphabet(thing), True, thing)
        for letters in permutations("mnz"):
            self.assertIs(is_alphabet("".join(letters)), True)

    def test_each_letter(self):
        for code in range(0x250):
            letter = chr(code)
            self.assertIs(is_alphabet(letter), "a" <= letter <= "z", repr(letter))

    def test_no_alphabets(self):
        for thing in (
            "", "aa", "aba", "abcda", "abcdea", "abcdef", "abcdefghijklmnopqrstuvwxyz", "A", "aB", "a b", " a", "a\n",
            "a1", "_", "a-z", "\u00e9", "a\u00df", "\uff41", "\u0430b", "a\u0301", "\ud800", "\x00", "a" * 100000,
        ):
            self.assertIs(is_alphabet(thing), False, repr(thing))

    def test_other_kinds(self):
        for thing in other_kinds():
            self.assertIs(is_alphabet(thing), False)


class TestWords(unittest.TestCase):
    def test_words(self):
        for alphabet, thing in (
            ("a", ""), ("a", "a"), ("a", "aaaa"), ("ab", "ba"), ("ba", "ab"), ("abcde", ""), ("abcde", "edcbaabcde"),
            ("xz", "zzzxxx"), ("ab", "ab" * 50000),
        ):
            self.assertIs(is_word(alphabet, thing), True)

    def test_no_words(self):
        for alphabet, thing in (
            ("a", "b"), ("ab", "c"), ("ab", "abc"), ("ab", "cab"), ("ab", "acb"), ("ab", "A"), ("ab", "a b"),
            ("ab", " "), ("ab", "ab\n"), ("az", "m"), ("ab", "\u00e4"), ("ab", "\ud800"), ("ab", "ab" * 50000 + "c"),
        ):
            self.assertIs(is_word(alphabet, thing), False, repr(thing)[:20])

    def test_other_kinds(self):
        for thing in other_kinds():
            self.assertIs(is_word("ab", thing), False)

    def test_no_word_over_what_is_no_alphabet(self):
        for alphabet in other_kinds() + ["", "aa", "AB"]:
            for thing in ("", "a", "A"):
                self.assertIs(is_word(alphabet, thing), False)


class TestOrder(unittest.TestCase):
    def test_all_pairs(self):
        for alphabet, length in (("a", 6), ("ab", 4), ("ba", 4), ("tad", 3), ("edcba", 2), ("bdeca", 2)):
            words = list(words_up_to(alphabet, length))
            for first, one in enumerate(words):
                for second, two in enumerate(words):
                    self.assertIs(comes_before(alphabet, one, two), first < second, (alphabet, one, two))

    def test_plain_cases(self):
        self.assertIs(comes_before("ab", "", ""), False)
        self.assertIs(comes_before("ab", "", "a"), True)
        self.assertIs(comes_before("ab", "b", "aa"), True)
        self.assertIs(comes_before("ba", "b", "a"), True)
        self.assertIs(comes_before("ab", "abba", "abab"), False)
        self.assertIs(comes_before("ab", "abab", "abba"), True)


if __name__ == "__main__":
    unittest.main()
