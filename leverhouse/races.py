"""Whether what a board shows at rest depends on the order of moves (points 55 to 58)."""

from leverhouse.agree import agree
from leverhouse.errors import NotDeterminate
from leverhouse.machine import MOST_HURRY
from leverhouse.search import LIMIT


def race(board, *, hurry=0, limit=LIMIT):
    """None if the board is determinate, otherwise an Unsettled or a Parting."""
    return agree(board, board, hurry=hurry, limit=limit)


def is_determinate(board, *, hurry=0, limit=LIMIT):
    """True if the board settles and shows the same behind all plays of one switching."""
    return race(board, hurry=hurry, limit=limit) is None


def check_determinate(board, hurry, limit):
    """Raises NotDeterminate if the board has a race."""
    if not is_determinate(board, hurry=hurry, limit=limit):
        raise NotDeterminate("what the board shows at rest depends on the order of moves")


def least_race(board, *, limit=LIMIT):
    """The least hurry in which the board is not determinate and the race in it, or None."""
    # No hurry beyond the number of relays allows more moves than this number does.
    for hurry in range(len(board.relays) + 1):
        found = race(board, hurry=hurry, limit=limit)
        if found is not None:
            return (hurry, found)
    return None


def greatest_hurry(board, *, limit=LIMIT):
    """The greatest hurry before that of the least race, or None."""
    least = least_race(board, limit=limit)
    if least is None:
        return MOST_HURRY
    return None if least[0] == 0 else least[0] - 1
