"""Lists of switchings that show all faults that can be seen (points 110 to 112)."""

from leverhouse.boards import check_names
from leverhouse.ends import Ends
from leverhouse.faults import Seen, faulty_boards, verdict_on
from leverhouse.races import check_determinate
from leverhouse.search import LIMIT


class Displays:
    """Which switchings show which faults of a board."""

    def __init__(self, board, boards, hurry, limit):
        """`boards` gives each fault the board with it."""
        self._own = Ends(board, hurry, limit)
        self._foreign = {fault: Ends(boards[fault], hurry, limit) for fault in boards}

    def tells(self, switching, fault):
        """True if the switching shows the fault."""
        own = self._own.seen(switching)
        return any([shown not in own for shown in self._foreign[fault].seen(switching)])

    def tell_all(self, switchings, faults):
        """True if each of the faults is shown by some of the switchings."""
        for fault in faults:
            if not any(self.tells(switching, fault) for switching in switchings):
                return False
        return True


def seen_faults(board, faults, *, hurry=0, limit=LIMIT):
    """The faults that can be seen, each with the switching of its verdict."""
    return _seen(board, faults, faulty_boards(board, faults), hurry, limit)


def suite(board, faults, *, hurry=0, limit=LIMIT):
    """Switchings that show all faults that can be seen, none of which can be left out."""
    boards = faulty_boards(board, faults)
    seen = _seen(board, faults, boards, hurry, limit)
    displays = Displays(board, boards, hurry, limit)
    chosen = []
    for fault, switching in seen:
        if not displays.tell_all(chosen, [fault]):
            chosen.append(switching)
    kept = chosen
    for switching in chosen:
        fewer = [other for other in kept if other != switching]
        if displays.tell_all(fewer, [fault for fault, _ in seen]):
            kept = fewer
    return kept


def check_suite(board, faults, switchings, *, hurry=0, limit=LIMIT):
    """True if the switchings show all faults that can be seen, and none of them can be left out."""
    boards = faulty_boards(board, faults)
    for switching in switchings:
        check_names(switching, board.switches)
    seen = [fault for fault, _ in _seen(board, faults, boards, hurry, limit)]
    displays = Displays(board, boards, hurry, limit)
    if not displays.tell_all(switchings, seen):
        return False
    fewer = [switchings[:at] + switchings[at + 1:] for at in range(len(switchings))]
    return not any([displays.tell_all(left, seen) for left in fewer])


def _seen(board, faults, boards, hurry, limit):
    check_determinate(board, hurry, limit)
    verdicts = {fault: verdict_on(board, boards[fault], hurry, limit) for fault in boards}
    seen = []
    for fault in faults:
        verdict = verdicts[fault]
        if isinstance(verdict, Seen):
            seen.append((fault, list(verdict.switching)))
    return seen
