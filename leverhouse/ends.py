"""What one switching can lead to (points 59 to 62)."""

from leverhouse.boards import check_names
from leverhouse.machine import Machine
from leverhouse.search import LIMIT, search_from


class Relays:
    """The moves of relays alone, told as a Machine tells all moves."""

    def __init__(self, machine):
        self._machine = machine

    def steps(self, state):
        """The moves of relays that can be made, each with the state behind it."""
        return self._machine.relay_steps(state)


class Ends:
    """The states that the switchings of a board lead to in a hurry, and the shows, which are kept."""

    def __init__(self, board, hurry, limit):
        self._machine = Machine(board, hurry)
        self._relays = Relays(self._machine)
        self._limit = limit
        self._known_shows = {}

    def possible(self, switching):
        """The possible states, in ascending order."""
        states = self._spread([self._machine.start()])
        for name in switching:
            starts = []
            for state in states:
                starts += [behind for move, behind in self._machine.hand_steps(state) if move[1] == name]
            states = self._spread(starts)
        return sorted(states)

    def resting(self, switching):
        """The possible states in which no relay is due."""
        return [state for state in self.possible(switching) if self._machine.rests(state)]

    def seen(self, switching):
        """The different shows of the states at rest, in their order."""
        key = tuple(switching)
        if key not in self._known_shows:
            shows = {self._machine.shown(state): True for state in self.resting(switching)}
            self._known_shows[key] = list(shows)
        return list(self._known_shows[key])

    def _spread(self, starts):
        return search_from(self._relays, starts, self._limit).states


def possible_states(board, switching, *, hurry=0, limit=LIMIT):
    """The states that plays of the switching lead to, in ascending order."""
    check_names(switching, board.switches)
    return Ends(board, hurry, limit).possible(switching)


def rest_states(board, switching, *, hurry=0, limit=LIMIT):
    """The possible states in which no relay is due."""
    check_names(switching, board.switches)
    return Ends(board, hurry, limit).resting(switching)


def rest_shows(board, switching, *, hurry=0, limit=LIMIT):
    """The different shows of the states at rest, in their order."""
    check_names(switching, board.switches)
    return Ends(board, hurry, limit).seen(switching)
