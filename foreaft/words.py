"""Alphabets, words and the order of words."""

LETTERS = "abcdefghijklmnopqrstuvwxyz"
MOST_LETTERS = 5


def is_alphabet(thing):
    """Tell if a value of any kind is an alphabet."""
    if type(thing) is not str or not 1 <= len(thing) <= MOST_LETTERS:
        return False
    for place, letter in enumerate(thing):
        if letter not in LETTERS or letter in thing[:place]:
            return False
    return True


def is_word(alphabet, thing):
    """Tell if a value of any kind is a word over the alphabet."""
    if not is_alphabet(alphabet) or type(thing) is not str:
        return False
    return all([letter in alphabet for letter in thing])


def comes_before(alphabet, one, two):
    """Tell if the first word comes before the second one in the order of words."""
    if len(one) != len(two):
        return len(one) < len(two)
    for first, second in zip(one, two):
        if first != second:
            return alphabet.index(first) < alphabet.index(second)
    return False


def indices(alphabet, word):
    """Return the index of each letter of a word."""
    return [alphabet.index(letter) for letter in word]
