"""Patterns and rules, read as the document says it, as directly as possible and by other ways than the program."""

import random
import re


def is_pattern(alphabet, text):
    """Point 23 without the limit of 12 characters: parentheses are replaced by letters from the inside out."""
    text = re.sub(f"[{alphabet}.]", "1", text)
    before = None
    while text != before:
        before = text
        text = re.sub(r"\((?:1[*+?]*|\|)*\)", "1", text)
    return re.fullmatch(r"(?:1[*+?]*|\|)*", text) is not None


def can_begin_pattern(alphabet, text):
    return any(is_pattern(alphabet, text + ")" * many) for many in range(len(text) + 1))


def refusal(alphabet, text):
    """Point 24: the place and the reason, or None for a pattern."""
    for place in range(len(text)):
        if place == 12:
            return (12, "too long")
        if not can_begin_pattern(alphabet, text[:place + 1]):
            return (place, "unexpected")
    return None if is_pattern(alphabet, text) else (len(text), "too short")


def described(alphabet, text, most):
    """The words up to a length that a pattern describes."""
    depth = 0
    branches = [""]
    for letter in text:
        depth += {"(": 1, ")": -1}.get(letter, 0)
        if letter == "|" and depth == 0:
            branches.append("")
        else:
            branches[-1] += letter
    return set().union(*[_branch_words(alphabet, branch, most) for branch in branches])


def _branch_words(alphabet, text, most):
    words = {""}
    while text:
        if text[0] == "(":
            end = [at for at in range(len(text)) if text[:at + 1].count("(") == text[:at + 1].count(")")][0]
            base, text = described(alphabet, text[1:end], most), text[end + 1:]
        else:
            base, text = set(alphabet if text[0] == "." else text[0]), text[1:]
        while text and text[0] in "*+?":
            base, text = _signed(base, text[0], most), text[1:]
        words = _behind(words, base, most)
    return {word for word in words if len(word) <= most}


def _behind(words, others, most):
    return {word + other for word in words for other in others if len(word + other) <= most}


def _signed(base, sign, most):
    if sign == "?":
        return base | {""}
    found, fresh = set(base), base
    while fresh:
        fresh = _behind(fresh, base, most) - found
        found |= fresh
    return found | {""} if sign == "*" else found


def parts_of(line):
    """The parts of a rule: X, Y, "#" or "", F, B, "#" or ""."""
    return re.fullmatch(r"(.)>(.)/(#?)([^_#]*)_([^_#]*)(#?)", line, re.DOTALL).groups()


def is_rule(alphabet, line):
    """Point 26 without the limit of 12 characters."""
    if re.fullmatch(f"[{alphabet}]>[{alphabet}]/#?[^_#]*_[^_#]*#?", line) is None:
        return False
    parts = parts_of(line)
    return is_pattern(alphabet, parts[3]) and is_pattern(alphabet, parts[4])


def can_begin_rule(alphabet, line):
    rest = f"{alphabet[0]}>{alphabet[0]}/"[len(line):]
    return any(
        is_rule(alphabet, line + rest + ")" * many + end)
        for many in range(len(line) + 1) for end in ("_", "")
    )


def line_refusal(alphabet, line):
    """Point 28 for one line: the place and the reason, or None for a rule."""
    for place in range(len(line)):
        begun = re.fullmatch(r"./#?([^_#]*)|.*_([^_#]*)", line[2:place], re.DOTALL)
        pattern = "" if begun is None else begun[1] or begun[2] or ""
        ends = line[place] in "_#" and is_pattern(alphabet, pattern)
        if len(pattern) == 12 and not ends:
            return (place, "too long")
        if not can_begin_rule(alphabet, line[:place + 1]):
            return (place, "unexpected")
    return None if is_rule(alphabet, line) else (len(line), "too short")


def rules_refusal(alphabet, text):
    """Point 28: the line, the place and the reason, or None for a list of rules."""
    for number, line in enumerate(text.split("\n")):
        if number == 6:
            return (6, 0, "too many rules")
        refused = line_refusal(alphabet, line)
        if refused is not None:
            return (number, *refused)
    return None


class Reading:
    """Rules with the words of their fronts and behinds up to a length."""

    def __init__(self, alphabet, text, most):
        self.rules = []
        for line in text.split("\n"):
            letter, becomes, from_start, front, behind, to_end = parts_of(line)
            self.rules.append((
                letter, becomes, from_start, described(alphabet, front, most),
                described(alphabet, behind, most), to_end,
            ))

    def fits_front(self, number, word):
        words = self.rules[number][3]
        if self.rules[number][2]:
            return word in words
        return any(word[at:] in words for at in range(len(word) + 1))

    def fits_behind(self, number, word):
        words = self.rules[number][4]
        if self.rules[number][5]:
            return word in words
        return any(word[:at] in words for at in range(len(word) + 1))

    def which(self, word):
        """Points 26 and 27: the first rule that applies at each place."""
        found = []
        for place, letter in enumerate(word):
            numbers = [
                number for number, rule in enumerate(self.rules) if rule[0] == letter
                and self.fits_front(number, word[:place]) and self.fits_behind(number, word[place + 1:])
            ]
            found.append(numbers[0] if numbers else None)
        return found

    def applied(self, word):
        return "".join(
            letter if number is None else self.rules[number][1] for letter, number in zip(word, self.which(word))
        )


def random_pattern(source, alphabet, most):
    """A random pattern of at most so many characters."""
    length = source.randint(0, most)
    while True:
        text = _grown(source, alphabet, 3)
        if length - 1 <= len(text) <= length:
            return text


def _grown(source, alphabet, depth):
    """A random pattern of any length, with parentheses up to a depth."""
    branches = []
    for _ in range(source.choice([1, 1, 1, 2, 3])):
        branches.append("")
        for _ in range(source.choice([0, 1, 1, 2, 2, 3, 4])):
            if depth > 0 and source.random() < 0.25:
                branches[-1] += "(" + _grown(source, alphabet, depth - 1) + ")"
            else:
                branches[-1] += source.choice(alphabet * 2 + "..")
            branches[-1] += source.choice(["", "", "", "", "*", "+", "?", "*?", "++"])
    return "|".join(branches)


def random_rules(source, alphabet, lines, most):
    """A random text of rules whose patterns have at most so many characters."""
    return "\n".join(
        f"{source.choice(alphabet)}>{source.choice(alphabet)}/{source.choice(['', '', '#'])}"
        f"{random_pattern(source, alphabet, most)}_{random_pattern(source, alphabet, most)}{source.choice(['', '', '#'])}"
        for _ in range(lines)
    )


def broken(source, text, letters):
    """A text with a few characters changed, taken out or put in."""
    for _ in range(source.randint(0, 2)):
        at = source.randint(0, len(text))
        text = text[:at] + source.choice([letter for letter in letters] + [""]) + text[at + source.randint(0, 1):]
    return text


def sources(seed, many):
    for at in range(many):
        yield random.Random(seed * 100000 + at)
