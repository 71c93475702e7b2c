"""Faults of contacts and relays, and what shows them (points 103 to 109)."""

from leverhouse.agree import Unsettled, agree
from leverhouse.boards import Board, check_names, check_number
from leverhouse.ends import rest_shows
from leverhouse.plays import switching_of
from leverhouse.races import check_determinate
from leverhouse.search import LIMIT

OPEN = "open"
CLOSED = "closed"
COIL = "coil"


class Seen:
    """A fault that can be seen at rest: behind a switching, with the shows without it and with it."""

    def __init__(self, switching, shows):
        self.switching = list(switching)
        self.shows = shows


class Restless:
    """A fault with which the board need not come to rest: a play and a round behind it."""

    def __init__(self, play, moves):
        self.play = list(play)
        self.moves = list(moves)


def all_faults(board):
    """The faults of the board, in their order."""
    wires = board.wires()
    numbers = range(len(board.contacts))
    faults = [(OPEN, number) for number in numbers]
    faults += [(CLOSED, number) for number in numbers if number not in wires]
    return faults + [(COIL, name) for name, _, _ in board.relays]


def faulty(board, fault):
    """The board with this fault."""
    kind, part = fault
    if kind == COIL:
        return _without_coil(board, part)
    if kind == OPEN:
        return board.without_contact(part)
    check_number(part, len(board.contacts))
    return board.replace_contact(part, _wired(board.contacts[part]))


def faulty_boards(board, faults):
    """For each of the faults, the board with it; raises the error of the first one that is none."""
    return {fault: faulty(board, fault) for fault in faults}


def _wired(contact):
    one, other, _, _, way = contact
    return (one, other, None, "make", way)


def _without_coil(board, name):
    check_names([name], [relay[0] for relay in board.relays])
    contacts = []
    for contact in board.contacts:
        if contact[2] != name:
            contacts.append(contact)
        elif contact[3] == "break":
            contacts.append(_wired(contact))
    return Board(
        nodes=board.nodes,
        lamps=board.lamps,
        switches=board.switches,
        relays=[relay for relay in board.relays if relay[0] != name],
        contacts=contacts,
    )


def fault_verdict(board, fault, *, hurry=0, limit=LIMIT):
    """A Seen, a Restless, or None if the fault cannot be seen at rest."""
    changed = faulty(board, fault)
    check_determinate(board, hurry, limit)
    return verdict_on(board, changed, hurry, limit)


def verdict_on(board, changed, hurry, limit):
    """The verdict on the fault of a determinate board that makes it the changed one."""
    found = agree(board, changed, hurry=hurry, limit=limit)
    if found is None:
        return None
    if isinstance(found, Unsettled):
        return Restless(found.play, found.moves)
    return Seen(switching_of(found.first), found.shows)


def shown_by(board, fault, switching, *, hurry=0, limit=LIMIT):
    """True if the faulty board can show at rest behind the switching what the board cannot."""
    changed = faulty(board, fault)
    own = rest_shows(board, switching, hurry=hurry, limit=limit)
    return any([shown not in own for shown in rest_shows(changed, switching, hurry=hurry, limit=limit)])


def suspects(board, faults, switching, shown, *, hurry=0, limit=LIMIT):
    """The faults with which this can be shown at rest behind the switching."""
    boards = faulty_boards(board, faults)
    found = {}
    for fault in boards:
        found[fault] = shown in rest_shows(boards[fault], switching, hurry=hurry, limit=limit)
    return [fault for fault in faults if found[fault]]
