"""Boards of switches, relays and lamps (points 2 to 10)."""

from leverhouse.errors import DifferentFaces, InvalidBoard, UnknownName, UnknownNumber

LONGEST_NAME = 12
LEAST_NODES = 2
LEAST_LAMPS = 1
CHARACTERS = "abcdefghijklmnopqrstuvwxyz0123456789"
WHENS = ("make", "break")
WAYS = ("both", "forward")


def is_good_name(text):
    """True if the string is a name (point 2)."""
    return 1 <= len(text) <= LONGEST_NAME and all([letter in CHARACTERS for letter in text])


def are_names(names, least, most):
    """True if these are at least `least` and at most `most` names, all of them different."""
    for number, name in enumerate(names):
        if not is_good_name(name) or name in names[:number]:
            return False
    return least <= len(names) <= most


def is_span(part, nodes):
    """True if the part is a name with two different nodes, as a relay or a lamp is."""
    if len(part) != 3:
        return False
    name, one, other = part
    return is_good_name(name) and one in nodes and other in nodes and one != other


def is_contact(part, nodes, movers):
    """True if the part is a contact for these nodes and movers (point 6)."""
    if len(part) != 5:
        return False
    one, other, mover, when, way = part
    if one not in nodes or other not in nodes or one == other:
        return False
    if mover is None:
        return when == "make" and way in WAYS
    return mover in movers and when in WHENS and way in WAYS


def check_number(number, count):
    """Raises UnknownNumber if the number is none of 0 to count - 1."""
    if not 0 <= number < count:
        raise UnknownNumber(number)


def check_names(names, known):
    """Raises UnknownName for the first of the names that is not among the known ones."""
    for name in names:
        if name not in known:
            raise UnknownName(name)


class Board:
    """A board: nodes, switches, relays, lamps, and the contacts between the nodes."""

    MOST_NODES = 16
    MOST_SWITCHES = 6
    MOST_RELAYS = 8
    MOST_LAMPS = 8
    MOST_CONTACTS = 40

    def __init__(self, *, nodes, lamps, switches=(), relays=(), contacts=()):
        self.nodes = tuple(nodes)
        self.switches = tuple(switches)
        self.relays = tuple([tuple(relay) for relay in relays])
        self.lamps = tuple([tuple(lamp) for lamp in lamps])
        self.contacts = tuple([tuple(contact) for contact in contacts])
        self._check_spans()
        self._movers = self.switches + tuple([name for name, _, _ in self.relays])
        self._check_names()
        self._check_contacts()

    def _check_spans(self):
        for part in self.relays + self.lamps:
            if not is_span(part, self.nodes):
                raise InvalidBoard(f"not a relay or a lamp of this board: {part}")

    def _check_names(self):
        if not are_names(self.nodes, LEAST_NODES, Board.MOST_NODES):
            raise InvalidBoard("the nodes are not 2 to 16 different names")
        if len(self.switches) > Board.MOST_SWITCHES or len(self.relays) > Board.MOST_RELAYS:
            raise InvalidBoard("there are more than 6 switches or more than 8 relays")
        if not are_names(self._movers, 0, len(self._movers)):
            raise InvalidBoard("the switches and relays are not different names")
        lamps = [name for name, _, _ in self.lamps]
        if not are_names(lamps, LEAST_LAMPS, Board.MOST_LAMPS):
            raise InvalidBoard("the lamps are not 1 to 8 lamps of different names")

    def _check_contacts(self):
        if len(self.contacts) > Board.MOST_CONTACTS:
            raise InvalidBoard("there are more than 40 contacts")
        for contact in self.contacts:
            if not is_contact(contact, self.nodes, self._movers):
                raise InvalidBoard(f"not a contact of this board: {contact}")

    @staticmethod
    def is_name(text):
        """True if the string is a name."""
        return is_good_name(text)

    @property
    def plus(self):
        return self.nodes[0]

    @property
    def minus(self):
        return self.nodes[1]

    @property
    def movers(self):
        """The names of the switches, then of the relays."""
        return self._movers

    def mover_number(self, name):
        if name not in self._movers:
            raise UnknownName(name)
        return self._movers.index(name)

    def is_switch(self, name):
        """True if the mover of this name is a switch, False if it is a relay."""
        return self.mover_number(name) < len(self.switches)

    def contacts_of(self, name):
        """The numbers of the contacts that the mover of this name moves."""
        if name not in self._movers:
            raise UnknownName(name)
        return [number for number, contact in enumerate(self.contacts) if contact[2] == name]

    def contacts_at(self, node):
        """The numbers of the contacts that have the node at one of their ends."""
        if node not in self.nodes:
            raise UnknownName(node)
        return [number for number, contact in enumerate(self.contacts) if node in contact[:2]]

    def wires(self):
        """The numbers of the contacts without a mover."""
        return [number for number, contact in enumerate(self.contacts) if contact[2] is None]

    def replace_contact(self, number, contact):
        """A board with this contact in the place of the one of this number."""
        check_number(number, len(self.contacts))
        ahead, behind = self.contacts[:number], self.contacts[number + 1:]
        return self._with_contacts([*ahead, contact, *behind])

    def insert_contact(self, number, contact):
        """A board with this contact ahead of the one of this number, or behind the last one."""
        check_number(number, len(self.contacts) + 1)
        ahead, behind = self.contacts[:number], self.contacts[number:]
        return self._with_contacts([*ahead, contact, *behind])

    def without_contact(self, number):
        """A board without the contact of this number."""
        check_number(number, len(self.contacts))
        return self._with_contacts(self.contacts[:number] + self.contacts[number + 1:])

    def _with_contacts(self, contacts):
        return Board(
            nodes=self.nodes,
            lamps=self.lamps,
            switches=self.switches,
            relays=self.relays,
            contacts=contacts,
        )


def same_face(one, other):
    """True if both boards have the same switches and the same names of lamps, in the same order."""
    names = [name for name, _, _ in one.lamps]
    return one.switches == other.switches and names == [name for name, _, _ in other.lamps]


def check_faces(one, other):
    """Raises DifferentFaces if the boards do not have the same face."""
    if not same_face(one, other):
        raise DifferentFaces("the boards do not have the same face")
