"""Alphabets, words and the order of words."""

LETTERS = "abcdefghijklmnopqrstuvwxyz"
MOST_LETTERS = 5


def is_alphabet(thing):
    """Tell if a value of any kind is an alphabet."""
    if type(thing) is not str or not 1 <= len(thing) <= MOST_LETTERS:
        return False
    for place, letter in enumerate(thing):
        if letter not in LETTERS or letter in thing[:place]:
            return False
    return True


def is_word(alphabet, thing):
    """Tell if a value of any kind is a word over the alphabet."""
    if not is_alphabet(alphabet) or type(thing) is not str:
        return False
    return all([letter in alphabet for letter in thing])


def comes_before(alphabet, one, two):
    """Tell if the first word comes before the second one in the order of words."""
    if len(one) != len(two):
        return len(one) < len(two)
    for first, second in zip(one, two):
        if first != second:
            return alphabet.index(first) < alphabet.index(second)
    return False


def earlier(alphabet, one, two):
    """Return the one of two words that comes first; the first one can be None, for no word."""
    if one is None or comes_before(alphabet, two, one):
        return two
    return one


def first_place(one, two):
    """Return the first place in which two different strings of one length differ."""
    k = 0
    while one[k] == two[k]:
        k += 1
    return k


def indices(alphabet, word):
    """Return the index of each letter of a word."""
    return [alphabet.index(letter) for letter in word]
