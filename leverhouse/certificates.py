"""Texts that show, without any search, what boards do (points 113 to 118)."""

from leverhouse.agree import Unsettled, agree, agreement, check_agreement
from leverhouse.boards import check_faces, is_good_name
from leverhouse.errors import InvalidCertificate, InvalidPlay, InvalidState
from leverhouse.plays import KINDS, run, switching_of, walk
from leverhouse.search import LIMIT
from leverhouse.settling import check_ranks, ranks, settles
from leverhouse.words import is_hurry, is_short_number

MOST_DIGITS = 9
NO_MOVERS = "-"
FUSES = ("whole", "blown")

# The words of the first line without its hurry, for certificates about one board and about two.
ALONE = (("settles",), ("round",))
TOGETHER = (("agree",), ("round", "one"), ("round", "other"), ("part",))

# For each first word, the first words of the lines that may follow, in their order.
ROWS = {
    "settles": ("state",),
    "round": ("go", "turn"),
    "agree": ("pair",),
    "part": ("first", "second"),
}

# What the other words of such a line are.
FORMS = {
    "state": ("bits", "fuse", "number"),
    "pair": ("bits", "fuse", "bits", "fuse", "number"),
    "go": ("mover", "name"),
    "turn": ("relay", "name"),
    "first": ("mover", "name"),
    "second": ("mover", "name"),
}


class Certificate:
    """What the lines of a certificate tell: its first line, and the words of those that follow."""

    def __init__(self, head):
        """`head` has the words of the first line."""
        self.word = head[0]
        self.hurry = int(head[1])
        self.which = head[-1]
        self.rows = {word: [] for word in ROWS[self.word]}
        self._now = ROWS[self.word][0]

    def take(self, words):
        """Keeps what the next line tells; False if it cannot stand here."""
        order = ROWS[self.word]
        if words[0] not in order[order.index(self._now):] or not _has_form(words):
            return False
        self._now = words[0]
        self.rows[words[0]].append(words[1:])
        return True

    def is_whole(self):
        """True if the text may end behind the lines taken so far."""
        return self.word != "round" or self._now == "turn"

    def moves_of(self, word):
        """The moves of the lines with this first word."""
        return [(kind, name) for kind, name in self.rows[word]]


def settling_certificate(board, *, hurry=0, limit=LIMIT):
    """The certificate of the board: that it settles, or that it does not."""
    table = ranks(board, hurry=hurry, limit=limit)
    if table is not None:
        lines = [f"state {_state_words(state)} {number}" for state, number in table]
        return _text(f"settles {hurry}", lines)
    found = settles(board, hurry=hurry, limit=limit)
    return _round_text(f"round {hurry}", found)


def agreement_certificate(one, other, *, hurry=0, limit=LIMIT):
    """The certificate of the two boards: that they agree, or that they do not."""
    entries = agreement(one, other, hurry=hurry, limit=limit)
    if entries is not None:
        lines = []
        for first, second, number in entries:
            lines.append(f"pair {_state_words(first)} {_state_words(second)} {number}")
        return _text(f"agree {hurry}", lines)
    found = agree(one, other, hurry=hurry, limit=limit)
    if isinstance(found, Unsettled):
        return _round_text(f"round {hurry} {found.which}", found)
    return _text(f"part {hurry}", _move_lines("first", found.first) + _move_lines("second", found.second))


def check_settling(board, text):
    """True if the text is a right certificate of the board."""
    told = _parsed(text, ALONE)
    if told.word == "round":
        return _is_round(board, told)
    table = [(_state(bits, fuse), int(number)) for bits, fuse, number in told.rows["state"]]
    try:
        return check_ranks(board, table, hurry=told.hurry)
    except InvalidState:
        return False


def check_agreeing(one, other, text):
    """True if the text is a right certificate of the two boards."""
    check_faces(one, other)
    told = _parsed(text, TOGETHER)
    if told.word == "round":
        return _is_round(one if told.which == "one" else other, told)
    if told.word == "part":
        return _is_parting(one, other, told)
    entries = []
    for bits, fuse, other_bits, other_fuse, number in told.rows["pair"]:
        entries.append((_state(bits, fuse), _state(other_bits, other_fuse), int(number)))
    try:
        return check_agreement(one, other, entries, hurry=told.hurry)
    except InvalidState:
        return False


def _is_round(board, told):
    """True if the certificate tells a play of the board and a round from the state behind it."""
    to_round = told.moves_of("go")
    play = to_round + told.moves_of("turn")
    try:
        states = list(walk(board, play, hurry=told.hurry))
    except InvalidPlay:
        return False
    return states[-1] == states[len(to_round)]


def _is_parting(one, other, told):
    """True if the certificate tells plays of one switching behind which the boards show their difference."""
    first = told.moves_of("first")
    second = told.moves_of("second")
    try:
        end = run(one, first, hurry=told.hurry)
        other_end = run(other, second, hurry=told.hurry)
    except InvalidPlay:
        return False
    if switching_of(first) != switching_of(second):
        return False
    return end.at_rest and other_end.at_rest and end.show != other_end.show


def _parsed(text, heads):
    """The Certificate with this text, whose first line has one of these forms."""
    lines = text.split("\n")
    head = lines[0].split(" ")
    if len(head) < 2 or not is_hurry(head[1]) or (head[0], *head[2:]) not in heads:
        raise InvalidCertificate(1)
    told = Certificate(head)
    for number, line in enumerate(lines[1:], start=2):
        if not told.take(line.split(" ")):
            raise InvalidCertificate(number)
    if not told.is_whole():
        raise InvalidCertificate(len(lines) + 1)
    return told


def _has_form(words):
    form = FORMS[words[0]]
    if len(words) != len(form) + 1:
        return False
    return all([_is_word(kind, word) for kind, word in zip(form, words[1:])])


def _is_word(kind, word):
    if kind == "bits":
        return word == NO_MOVERS or word != "" and all([letter in "01" for letter in word])
    if kind == "fuse":
        return word in FUSES
    if kind == "number":
        return is_short_number(word, MOST_DIGITS)
    if kind == "name":
        return is_good_name(word)
    return word in KINDS if kind == "mover" else word == "relay"


def _state(bits, fuse):
    movers = () if bits == NO_MOVERS else tuple([bit == "1" for bit in bits])
    return (movers, fuse == "blown")


def _state_words(state):
    movers, blown = state
    bits = "".join(["1" if on else "0" for on in movers])
    fuse = "blown" if blown else "whole"
    return f"{bits or NO_MOVERS} {fuse}"


def _move_lines(word, play):
    return [f"{word} {kind} {name}" for kind, name in play]


def _round_text(head, found):
    return _text(head, _move_lines("go", found.play) + _move_lines("turn", found.moves))


def _text(head, lines):
    return "\n".join([head, *lines])
