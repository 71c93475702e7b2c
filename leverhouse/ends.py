"""What one switching can lead to (points 59 to 62)."""

from leverhouse.boards import check_names
from leverhouse.machine import Machine
from leverhouse.search import LIMIT, search_from


class Relays:
    """The moves of relays alone, told as a Machine tells all moves."""

    def __init__(self, machine):
        self._machine = machine

    def steps(self, state):
        """The moves of relays that can be made, each with the state behind it."""
        return self._machine.relay_steps(state)


def possible_states(board, switching, *, hurry=0, limit=LIMIT):
    """The states that plays of the switching lead to, in ascending order."""
    check_names(switching, board.switches)
    return _possible(Machine(board, hurry), switching, limit)


def rest_states(board, switching, *, hurry=0, limit=LIMIT):
    """The possible states in which no relay is due."""
    check_names(switching, board.switches)
    machine = Machine(board, hurry)
    return _at_rest(machine, _possible(machine, switching, limit))


def rest_shows(board, switching, *, hurry=0, limit=LIMIT):
    """The different shows of the states at rest, in their order."""
    check_names(switching, board.switches)
    machine = Machine(board, hurry)
    states = _at_rest(machine, _possible(machine, switching, limit))
    return list({machine.shown(state): True for state in states})


def _possible(machine, switching, limit):
    relays = Relays(machine)
    states = search_from(relays, [machine.start()], limit).states
    for name in switching:
        starts = []
        for state in states:
            starts += [behind for move, behind in machine.hand_steps(state) if move[1] == name]
        states = search_from(relays, starts, limit).states
    return sorted(states)


def _at_rest(machine, states):
    return [state for state in states if machine.rests(state)]
