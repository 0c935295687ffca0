"""Where a pattern ends in a text, or where it goes wrong."""

MOST_CHARACTERS = 12
SIGNS = "*+?"


def pattern_end(alphabet, text, start, stops):
    """Return the place at which the pattern that begins at start ends, and None; or where it goes wrong, and why.

    It ends at one of the stops outside of parentheses, or at the end of the text.
    """
    depth = 0
    # A sign has nothing before it at the start, just as behind a parenthesis that is opened.
    before = "("
    for place in range(start, len(text)):
        letter = text[place]
        if depth == 0 and letter in stops:
            return (place, None)
        if place - start == MOST_CHARACTERS:
            return (place, "too long")
        if not _can_follow(alphabet, before, letter, depth):
            return (place, "unexpected")
        if letter in "()":
            depth += 1 if letter == "(" else -1
        before = letter
    return (len(text), "too short" if depth > 0 else None)


def _can_follow(alphabet, before, letter, depth):
    """Tell if a character can stand behind another one, inside so many open parentheses."""
    if letter in SIGNS:
        return before not in "(|"
    if letter == ")":
        return depth > 0
    return letter in alphabet or letter in ".(|"
