"""Names of things, and the words of commands."""

LETTERS = "abcdefghijklmnopqrstuvwxyz"
DIGITS = "0123456789"
MOST_LETTERS = 8


def is_name(given):
    """Whether it is a string of one to eight small letters."""
    return isinstance(given, str) and 1 <= len(given) <= MOST_LETTERS and _is_made_of(given, LETTERS)


def integer_of(word):
    """The integer that is written so, None if none is."""
    digits = word[1:] if word.startswith("-") else word
    if not digits or not _is_made_of(digits, DIGITS):
        return None
    if digits.startswith("0") and word != "0":
        return None
    return int(word)


def pair_of(word):
    """The two integers that are written so, with a comma between them, None if none are."""
    integers = [integer_of(part) for part in word.split(",")]
    if len(integers) != 2 or None in integers:
        return None
    return tuple(integers)


def _is_made_of(text, signs):
    return all([sign in signs for sign in text])
