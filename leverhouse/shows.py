"""What plays can show, at rest or on the way (points 63 to 72)."""

from leverhouse.boards import check_names
from leverhouse.machine import Machine
from leverhouse.search import LIMIT, search_all


class Flash:
    """A flash of a lamp: the play that ends with it, and the number of the hand that brings it."""

    def __init__(self, lamp, play, hand):
        self.lamp = lamp
        self.play = list(play)
        self.hand = hand


class Cases:
    """The cases of a lamp (point 71) and the moves between them, told as a Machine tells its own.

    A case is a state, the part that is not whole in it, and whether the lamp has just flashed. A
    part is None, or whether the lamp was live before it and whether it has been otherwise since.
    """

    def __init__(self, board, lamp):
        self._machine = Machine(board)
        self._lamp = lamp

    def start(self):
        """The case of the first state."""
        return (self._machine.start(), None, False)

    def steps(self, case):
        """The moves of the case, each with the case behind it."""
        state, part, flashed = case
        if flashed:
            return []
        steps = []
        # Hands move at rest alone, where no part is open.
        for move, behind in self._machine.hand_steps(state):
            steps.append((move, self._case_in((self._is_lit(state), False), behind)))
        for move, behind in self._machine.relay_steps(state):
            steps.append((move, (behind, None, False) if part is None else self._case_in(part, behind)))
        return steps

    def _case_in(self, part, state):
        before, changed = part
        other = self._is_lit(state) != before
        if self._machine.rests(state):
            return (state, None, changed and not other)
        return (state, (before, changed or other), False)

    def _is_lit(self, state):
        return self._lamp in self._machine.shown(state)[0]


def never(board, *, on=(), off=(), rest=False, hurry=0, limit=LIMIT):
    """The first play to a state that fulfils the wish, or None."""
    check_names([*on, *off], _lamp_names(board))
    machine = Machine(board, hurry)
    search = search_all(machine, limit)
    for state in search.states:
        if _is_lit_so(machine, state, on, off) and (machine.rests(state) or not rest):
            return search.play_to(state)
    return None


def all_shows(board, *, rest=False, hurry=0, limit=LIMIT):
    """The shows of reached states (at rest), each with the first play to it."""
    machine = Machine(board, hurry)
    search = search_all(machine, limit)
    plays = {}
    for state in search.states:
        shown = machine.shown(state)
        if shown not in plays and (machine.rests(state) or not rest):
            plays[shown] = search.play_to(state)
    return [(shown, plays[shown]) for shown in plays]


def first_short(board, *, hurry=0, limit=LIMIT):
    """The first play that blows the fuse, or None."""
    search = search_all(Machine(board, hurry), limit)
    for state in search.states:
        if state[1]:
            return search.play_to(state)
    return None


def first_flash(board, lamp, *, limit=LIMIT):
    """The first Flash of the lamp, or None."""
    check_names([lamp], _lamp_names(board))
    search = search_all(Cases(board, lamp), limit)
    for case in search.states:
        if case[2]:
            play = search.play_to(case)
            hands = [number for number, move in enumerate(play) if move[0] == "hand"]
            return Flash(lamp, play, hands[-1])
    return None


def flashes(board, *, limit=LIMIT):
    """The first Flash of each lamp, or None."""
    return [first_flash(board, lamp, limit=limit) for lamp in _lamp_names(board)]


def _lamp_names(board):
    return [name for name, _, _ in board.lamps]


def _is_lit_so(machine, state, on, off):
    lit, _ = machine.shown(state)
    return all([name in lit for name in on]) and not any([name in lit for name in off])
