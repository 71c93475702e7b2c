"""The states that plays lead to, in the order of their first plays (points 27 to 34)."""

from leverhouse.errors import TooMany
from leverhouse.machine import Machine

LIMIT = 3000


class Search:
    """The result of a search: the states that were found, in their order, and how."""

    def __init__(self, origins):
        """`origins` gives each state, in order, the one before it and the move, a start None."""
        self.states = list(origins)
        # Kept apart from the list of states, which whoever asked for the search may change.
        self._origins = {state: origins[state] for state in origins}

    def holds(self, state):
        """True if the state was found."""
        return state in self._origins

    def start_of(self, state):
        """The start from which a found state was found."""
        while self._origins[state] is not None:
            state, _ = self._origins[state]
        return state

    def play_to(self, state):
        """The moves by which a found state was found."""
        play = []
        while self._origins[state] is not None:
            state, move = self._origins[state]
            play.append(move)
        return play[::-1]

    def rounds(self):
        """The lists of the states of each depth."""
        depths = {}
        rounds = []
        for state in self._origins:
            origin = self._origins[state]
            depths[state] = 0 if origin is None else depths[origin[0]] + 1
            if depths[state] == len(rounds):
                rounds.append([])
            rounds[depths[state]].append(state)
        return rounds


def search_from(machine, starts, limit):
    """The Search from the starts, by the steps of anything that tells them as a Machine does."""
    origins = {start: None for start in starts}
    waiting = list(origins)
    while waiting:
        later = []
        for state in waiting:
            for move, behind in machine.steps(state):
                if behind not in origins:
                    origins[behind] = (state, move)
                    later.append(behind)
            if len(origins) > limit:
                raise TooMany(limit)
        waiting = later
    return Search(origins)


def search_all(machine, limit):
    """The Search from the first state of the machine."""
    return search_from(machine, [machine.start()], limit)


def moves(board, state, *, hurry=0):
    """The moves that can be made in the state, in their order."""
    return [move for move, _ in Machine(board, hurry).steps(state)]


def explore(board, *, hurry=0, limit=LIMIT):
    """The Search from the first state."""
    return search_all(Machine(board, hurry), limit)


def explore_from(board, starts, *, hurry=0, limit=LIMIT):
    """The Search from several starts."""
    return search_from(Machine(board, hurry), starts, limit)


def all_states(board, *, hurry=0, limit=LIMIT):
    """The reached states in the order in which they are found."""
    return explore(board, hurry=hurry, limit=limit).states


def first_play(board, states, *, hurry=0, limit=LIMIT):
    """The first of the first plays to those of the states that are reached, or None."""
    search = explore(board, hurry=hurry, limit=limit)
    wanted = {state: True for state in states}
    for state in search.states:
        if state in wanted:
            return search.play_to(state)
    return None


def rounds_of(board, *, hurry=0, limit=LIMIT):
    """Yields the lists of the states of depth 0, 1, 2 and so on."""
    rounds = explore(board, hurry=hurry, limit=limit).rounds()
    for states in rounds:
        yield states
