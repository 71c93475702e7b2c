"""Boards with fewer parts that show the same at rest (points 119 to 122)."""

from leverhouse.agree import agree
from leverhouse.faults import faulty
from leverhouse.races import check_determinate
from leverhouse.search import LIMIT


class Tidied:
    """A board that is left, and the numbers, in the first board, of the contacts that were removed."""

    def __init__(self, board, removed):
        self.board = board
        self.removed = tuple(removed)


def tidy(board, *, hurry=0, limit=LIMIT):
    """The Tidied board, none of whose contacts is idle."""
    check_determinate(board, hurry, limit)
    left = board
    numbers = list(range(len(board.contacts)))
    removed = []
    idle = _first_idle(left, hurry, limit)
    while idle is not None:
        left = left.without_contact(idle)
        removed.append(numbers.pop(idle))
        # A contact that was needed beside the removed one need not be so any more.
        idle = _first_idle(left, hurry, limit)
    return Tidied(left, removed)


def _first_idle(board, hurry, limit):
    """The least number of an idle contact, or None."""
    for number in range(len(board.contacts)):
        if agree(board, board.without_contact(number), hurry=hurry, limit=limit) is None:
            return number
    return None


def without_relay(board, name):
    """The board without the relay, as if it never moved."""
    return faulty(board, ("coil", name))


def idle_relays(board, *, hurry=0, limit=LIMIT):
    """The names of the relays without each of which the board shows the same."""
    check_determinate(board, hurry, limit)
    names = []
    for name, _, _ in board.relays:
        if agree(board, without_relay(board, name), hurry=hurry, limit=limit) is None:
            names.append(name)
    return names


def check_tidied(board, tidied, *, hurry=0, limit=LIMIT):
    """True if the tidied board is the board without the removed contacts, and agrees with it."""
    if not _fits(board, tidied):
        return False
    return agree(board, tidied.board, hurry=hurry, limit=limit) is None


def _fits(board, tidied):
    removed = tidied.removed
    numbers = range(len(board.contacts))
    if len(set(removed)) < len(removed) or not all([number in numbers for number in removed]):
        return False
    kept = [contact for number, contact in enumerate(board.contacts) if number not in removed]
    return list(tidied.board.contacts) == kept and _frame(tidied.board) == _frame(board)


def _frame(board):
    """All parts of the board but its contacts."""
    return (board.nodes, board.switches, board.relays, board.lamps)
