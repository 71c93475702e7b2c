"""The written form of boards (points 11 and 12)."""

from leverhouse.boards import LEAST_NODES, Board, are_names, is_contact, is_span
from leverhouse.errors import InvalidNotation

WIRE = "-"

# The first words of the lines that may come behind a line with this first word.
NEXT_WORDS = {
    "": ("nodes",),
    "nodes": ("switches",),
    "switches": ("relay", "lamp"),
    "relay": ("relay", "lamp"),
    "lamp": ("lamp", "contact"),
    "contact": ("contact",),
}
LAST_WORDS = ("lamp", "contact")


def format_board(board):
    """The written form of the board."""
    lines = [["nodes", *board.nodes], ["switches", *board.switches]]
    for relay in board.relays:
        lines.append(["relay", *relay])
    for lamp in board.lamps:
        lines.append(["lamp", *lamp])
    for one, other, mover, when, way in board.contacts:
        lines.append(["contact", one, other, WIRE if mover is None else mover, when, way])
    return "\n".join([" ".join(words) for words in lines])


class Draft:
    """The parts of a board that the lines read so far tell."""

    def __init__(self):
        self.nodes = []
        self.switches = []
        self.relays = []
        self.lamps = []
        self.contacts = []
        self.last_word = ""

    def take(self, words):
        """Keeps the part that the words of the next line tell; False if they cannot stand here."""
        word, part = words[0], words[1:]
        if word not in NEXT_WORDS[self.last_word]:
            return False
        self.last_word = word
        if word == "nodes":
            return self._take_nodes(part)
        if word == "switches":
            return self._take_switches(part)
        if word == "relay":
            return self._take_relay(part)
        if word == "lamp":
            return self._take_lamp(part)
        return self._take_contact(part)

    def _take_nodes(self, part):
        self.nodes = part
        return are_names(part, LEAST_NODES, Board.MOST_NODES)

    def _take_switches(self, part):
        self.switches = part
        return are_names(part, 0, Board.MOST_SWITCHES)

    def _take_relay(self, part):
        if not is_span(part, self.nodes) or part[0] in self._mover_names():
            return False
        self.relays.append(part)
        return len(self.relays) <= Board.MOST_RELAYS

    def _take_lamp(self, part):
        if not is_span(part, self.nodes) or part[0] in [lamp[0] for lamp in self.lamps]:
            return False
        self.lamps.append(part)
        return len(self.lamps) <= Board.MOST_LAMPS

    def _take_contact(self, part):
        # Anywhere but in the place of the mover, None is as wrong as the sign of a wire is.
        contact = [None if word == WIRE else word for word in part]
        if not is_contact(contact, self.nodes, self._mover_names()):
            return False
        self.contacts.append(contact)
        return len(self.contacts) <= Board.MOST_CONTACTS

    def _mover_names(self):
        return self.switches + [relay[0] for relay in self.relays]

    def is_whole(self):
        """True if the text may end behind the lines read so far."""
        return self.last_word in LAST_WORDS

    def finished(self):
        """The board of these parts."""
        return Board(
            nodes=self.nodes,
            lamps=self.lamps,
            switches=self.switches,
            relays=self.relays,
            contacts=self.contacts,
        )


def parse_board(text):
    """The board whose written form is the text."""
    lines = text.split("\n")
    draft = Draft()
    for number, line in enumerate(lines, start=1):
        if not draft.take(line.split(" ")):
            raise InvalidNotation(number)
    if not draft.is_whole():
        raise InvalidNotation(len(lines) + 1)
    return draft.finished()
