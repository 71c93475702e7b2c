"""What the contacts of a board are needed for (points 73 to 75)."""

from leverhouse.agree import agree
from leverhouse.boards import check_number
from leverhouse.races import check_determinate
from leverhouse.search import LIMIT


def one_way(board, number, *, back=False):
    """The board in which the contact leads one way alone, as it is or turned round."""
    check_number(number, len(board.contacts))
    one, other, mover, when, _ = board.contacts[number]
    ends = (other, one) if back else (one, other)
    return board.replace_contact(number, (*ends, mover, when, "forward"))


def use_of(board, number, *, hurry=0, limit=LIMIT):
    """The word for what a contact of a determinate board is needed for."""
    if agree(board, board.without_contact(number), hurry=hurry, limit=limit) is None:
        return "idle"
    if board.contacts[number][4] == "forward":
        return "forward"
    if agree(board, one_way(board, number), hurry=hurry, limit=limit) is None:
        return "forward"
    if agree(board, one_way(board, number, back=True), hurry=hurry, limit=limit) is None:
        return "back"
    return "needed"


def uses(board, *, hurry=0, limit=LIMIT):
    """The words of all contacts, in their order."""
    check_determinate(board, hurry, limit)
    return [use_of(board, number, hurry=hurry, limit=limit) for number in range(len(board.contacts))]
