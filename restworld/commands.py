"""The forms of the commands of a console: words with single spaces between them."""

from restworld.claims import KINDS, MANY_NAMES, is_of_kind
from restworld.limits import MOST_DEGREE, MOST_FACTS
from restworld.names import integer_of, is_name, pair_of

# What stands behind each first word, but for those behind which there may be more or fewer.
FORMS = {
    "drop": ("NAME",), "lift": ("N",), "undo": (), "joined": ("NAME",), "rest": ("NAME", "M"), "dark": ("NAME", "X"),
    "share": ("NAME",), "value": ("NAME", "X"), "form": ("NAME", "M"), "zeros": ("NAME", "M"),
    "endless": ("NAME", "P"), "show": ("NAME",), "names": (), "claims": (),
}


def read_command(command):
    """A list of the first word and of what stands behind it, None if it has none of the forms."""
    if not isinstance(command, str):
        return None
    words = command.split(" ")
    kinds = _kinds_behind(words)
    if kinds is None or len(words) != 1 + len(kinds):
        return None
    told = words[:1] + [_read(word, kind) for word, kind in zip(words[1:], kinds)]
    return None if None in told else told


def _kinds_behind(words):
    """Of which kinds the words behind the first one have to be, None if there are none such."""
    first = words[0]
    many = len(words) - 2
    if first == "facts" and 1 <= many <= MOST_FACTS:
        return ("NAME",) + ("FACT",) * many
    if first == "sum" and 1 <= many <= MOST_DEGREE + 1:
        return ("NAME",) + ("X",) * many
    if first == "claim" and many >= 0 and words[1] in KINDS:
        return ("WORD",) + ("NAME",) * MANY_NAMES[words[1]] + KINDS[words[1]]
    return FORMS.get(first)


def _read(word, kind):
    """What the word tells as one of the kind, None if it is none."""
    if kind == "WORD":
        return word
    if kind == "NAME":
        return word if is_name(word) else None
    if kind == "FACT":
        return pair_of(word)
    number = integer_of(word)
    if kind == "X":
        return number
    if kind == "P":
        return None if number is None or number < 0 else number
    return number if is_of_kind(number, kind) else None
