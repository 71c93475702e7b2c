"""Switchings that bring something about, on boards that are determinate (points 76 to 79)."""

from leverhouse.boards import check_names
from leverhouse.machine import Machine
from leverhouse.races import check_determinate
from leverhouse.search import LIMIT, search_from


class Calm:
    """A board that is let come to rest behind each hand, the first relay that is due moving first.

    Of a determinate board, this tells what every play of a switching shows at rest. The moves are
    the names of switches, told as a Machine tells its moves.
    """

    def __init__(self, board):
        self._machine = Machine(board)

    def start(self):
        """The state at rest behind the empty switching."""
        return self._settled(self._machine.start())

    def steps(self, state):
        """The switches in their order, each with the state at rest behind its hand."""
        return [(name, self._settled(behind)) for (_, name), behind in self._machine.hand_steps(state)]

    def after(self, switching):
        """The state at rest behind the switching."""
        state = self.start()
        for name in switching:
            state = self._settled(dict(self._machine.hand_steps(state))[("hand", name)])
        return state

    def shown(self, state):
        """The show of the state."""
        return self._machine.shown(state)

    def _settled(self, state):
        while not self._machine.rests(state):
            _, state = self._machine.relay_steps(state)[0]
        return state


def show_at_rest(board, switching, *, hurry=0, limit=LIMIT):
    """What the board shows at rest behind the switching."""
    check_names(switching, board.switches)
    check_determinate(board, hurry, limit)
    calm = Calm(board)
    return calm.shown(calm.after(switching))


def how_to(board, on, *, hurry=0, limit=LIMIT):
    """The first switching behind which exactly these lamps are live at rest, or None."""
    lamps = [name for name, _, _ in board.lamps]
    check_names(on, lamps)
    check_determinate(board, hurry, limit)
    wanted = tuple([name for name in lamps if name in on])
    calm = Calm(board)
    search = _switchings_from(calm, calm.start(), limit)
    for state in search.states:
        if calm.shown(state)[0] == wanted:
            return search.play_to(state)
    return None


def way_back(board, switching, *, hurry=0, limit=LIMIT):
    """The first further switching that brings all switches and the show of the start back, or None."""
    check_names(switching, board.switches)
    check_determinate(board, hurry, limit)
    calm = Calm(board)
    wanted = calm.shown(calm.start())
    search = _switchings_from(calm, calm.after(switching), limit)
    for state in search.states:
        if not any(state[0][:len(board.switches)]) and calm.shown(state) == wanted:
            return search.play_to(state)
    return None


def _switchings_from(calm, state, limit):
    # The states at rest are among those that were counted for the race, so there are never too many.
    return search_from(calm, [state], limit)
