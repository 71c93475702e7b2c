"""Questions about boards answered by trying everything, to compare the program with.

What tests.naive tells of a state is kept, so that the same state may be asked for often.
"""

from tests import naive


class Slow:
    """A board and what is known of its states."""

    def __init__(self, board):
        self.board = board
        self.start = naive.first_state(board)
        self._due = {}
        self._shows = {}
        self._behind = {}

    def due(self, state):
        if state not in self._due:
            self._due[state] = naive.due(self.board, state)
        return self._due[state]

    def rests(self, state):
        return not self.due(state)

    def show(self, state):
        if state not in self._shows:
            self._shows[state] = (tuple(naive.live(self.board, state, self.board.lamps)), state[1])
        return self._shows[state]

    def step(self, state, name):
        if (state, name) not in self._behind:
            self._behind[state, name] = naive.step(self.board, state, name)
        return self._behind[state, name]

    def moves(self, state, hurry):
        hands = [("hand", name) for name in self.board.switches] if len(self.due(state)) <= hurry else []
        return hands + [("relay", name) for name in self.due(state)]

    def reached(self, starts, hurry):
        """A dict in the order of finding: state -> play."""
        return found_from(starts, lambda state: self.behind(state, hurry))

    def behind(self, state, hurry):
        return [(move, self.step(state, move[1])) for move in self.moves(state, hurry)]

    def first_round(self, state):
        """The first round from the state, or None."""
        rows = [([], state)]
        seen = set()
        while rows:
            longer = []
            for row, last in rows:
                for name in self.due(last):
                    after = self.step(last, name)
                    if after == state:
                        return row + [("relay", name)]
                    if after not in seen:
                        seen.add(after)
                        longer.append((row + [("relay", name)], after))
            rows = longer
        return None

    def trouble(self, starts, hurry):
        """The play and the round of the first reached state that is on a round, or None."""
        for state, play in self.reached(starts, hurry).items():
            moves = self.first_round(state)
            if moves is not None:
                return (play, moves)
        return None

    def longest(self, state):
        return max([0] + [1 + self.longest(self.step(state, name)) for name in self.due(state)])


def found_from(starts, behind):
    """A dict in the order of finding: what is found -> the moves from its start to it."""
    found = {start: [] for start in starts}
    queue = list(found)
    while queue:
        now = queue.pop(0)
        for move, after in behind(now):
            if after not in found:
                found[after] = found[now] + [move]
                queue.append(after)
    return found


def joint_moves(one, other, pair, hurry):
    first, second = pair
    can_hand = len(one.due(first)) <= hurry and len(other.due(second)) <= hurry
    hands = [("hand", name) for name in one.board.switches] if can_hand else []
    mine = [("first", name) for name in one.due(first)]
    return hands + mine + [("second", name) for name in other.due(second)]


def joint_step(one, other, pair, move):
    first, second = pair
    kind, name = move
    if kind in ("hand", "first"):
        first = one.step(first, name)
    if kind in ("hand", "second"):
        second = other.step(second, name)
    return (first, second)


def reached_pairs(one, other, starts, hurry):
    """A dict in the order of finding: pair -> joint play."""

    def behind(pair):
        return [(move, joint_step(one, other, pair, move)) for move in joint_moves(one, other, pair, hurry)]

    return found_from(starts, behind)


def split(play):
    first, second = [], []
    for kind, name in play:
        if kind == "hand":
            first.append(("hand", name))
            second.append(("hand", name))
        elif kind == "first":
            first.append(("relay", name))
        else:
            second.append(("relay", name))
    return first, second


def parting(one, other, starts, hurry):
    """The plays and shows of the first pair at rest with different shows, or None."""
    for pair, play in reached_pairs(one, other, starts, hurry).items():
        first, second = pair
        shows = (one.show(first), other.show(second))
        if one.rests(first) and other.rests(second) and shows[0] != shows[1]:
            return (*split(play), shows)
    return None


def agree(one, other, hurry):
    """None, ("one" or "other", play, moves), or (first, second, shows)."""
    for which, slow in (("one", one), ("other", other)):
        found = slow.trouble([slow.start], hurry)
        if found is not None:
            return (which, *found)
    return parting(one, other, [(one.start, other.start)], hurry)


def possible(slow, switching, hurry):
    """The set of all states that plays of the switching lead to."""
    states = relay_closed(slow, {slow.start})
    for name in switching:
        moved = [state for state in states if len(slow.due(state)) <= hurry]
        states = relay_closed(slow, {slow.step(state, name) for state in moved})
    return states


def relay_closed(slow, states):
    while True:
        more = states | {slow.step(state, name) for state in states for name in slow.due(state)}
        if more == states:
            return states
        states = more


def ascending(states):
    """The states as point 60 orders them."""
    return sorted(states, key=lambda state: ["01"[on] for on in state[0]] + ["01"[state[1]]])
