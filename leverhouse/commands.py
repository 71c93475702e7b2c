"""The words of lines, and the lines that are commands (points 129 and 130)."""

from leverhouse.boards import WAYS, WHENS, is_good_name
from leverhouse.notation import WIRE
from leverhouse.words import is_hurry, is_short_number

MOST_DIGITS = 4

# For each first word of a command, what its other words are.
FORMS = {
    "board": ("name",),
    "replace": ("name", "number", "name", "name", "mover", "when", "way"),
    "insert": ("name", "number", "name", "name", "mover", "when", "way"),
    "cut": ("name", "number"),
    "ask": ("name", "name", "hurry", "name"),
    "drop": ("name",),
    "remove": ("name",),
    "undo": (),
    "redo": (),
    "answer": ("name",),
    "answers": (),
    "show": ("table",),
    "print": ("name",),
}
TABLES = ("boards", "questions")


def split_words(line):
    """The parts of the line between spaces that are not empty."""
    return [word for word in line.split(" ") if word != ""]


def is_number(word):
    """True if the word is a number of 1 to 4 digits without a leading zero."""
    return is_short_number(word, MOST_DIGITS)


def is_command(words):
    """True if the words are a command."""
    if words[0] not in FORMS:
        return False
    form = FORMS[words[0]]
    parts = words[1:]
    if words[0] == "ask":
        # Behind the first board, any number of further ones may stand.
        form = form + ("name",) * (len(parts) - len(form))
    return len(parts) == len(form) and all([_is_word(kind, part) for kind, part in zip(form, parts)])


def _is_word(kind, word):
    if kind == "number":
        return is_number(word)
    if kind == "hurry":
        return is_hurry(word)
    if kind == "when":
        return word in WHENS
    if kind == "way":
        return word in WAYS
    if kind == "table":
        return word in TABLES
    return is_good_name(word) or kind == "mover" and word == WIRE
