"""Questions about boards answered by trying everything, to compare the program with.

What tests.naive tells of a state is kept, so that the same state may be asked for often.
"""

from tests import naive


class Slow:
    """A board and what is known of its states."""

    def __init__(self, board):
        self.board = board
        self.start = naive.first_state(board)
        self._due = {}
        self._shows = {}
        self._behind = {}

    def due(self, state):
        if state not in self._due:
            self._due[state] = naive.due(self.board, state)
        return self._due[state]

    def rests(self, state):
        return not self.due(state)

    def show(self, state):
        if state not in self._shows:
            self._shows[state] = (tuple(naive.live(self.board, state, self.board.lamps)), state[1])
        return self._shows[state]

    def step(self, state, name):
        if (state, name) not in self._behind:
            self._behind[state, name] = naive.step(self.board, state, name)
        return self._behind[state, name]

    def moves(self, state, hurry):
        hands = [("hand", name) for name in self.board.switches] if len(self.due(state)) <= hurry else []
        return hands + [("relay", name) for name in self.due(state)]

    def reached(self, starts, hurry):
        """A dict in the order of finding: state -> play."""
        return found_from(starts, lambda state: self.behind(state, hurry))

    def behind(self, state, hurry):
        return [(move, self.step(state, move[1])) for move in self.moves(state, hurry)]

    def first_round(self, state):
        """The first round from the state, or None."""
        rows = [([], state)]
        seen = set()
        while rows:
            longer = []
            for row, last in rows:
                for name in self.due(last):
                    after = self.step(last, name)
                    if after == state:
                        return row + [("relay", name)]
                    if after not in seen:
                        seen.add(after)
                        longer.append((row + [("relay", name)], after))
            rows = longer
        return None

    def trouble(self, starts, hurry):
        """The play and the round of the first reached state that is on a round, or None."""
        for state, play in self.reached(starts, hurry).items():
            moves = self.first_round(state)
            if moves is not None:
                return (play, moves)
        return None

    def longest(self, state):
        return max([0] + [1 + self.longest(self.step(state, name)) for name in self.due(state)])


def found_from(starts, behind):
    """A dict in the order of finding: what is found -> the moves from its start to it."""
    found = {start: [] for start in starts}
    queue = list(found)
    while queue:
        now = queue.pop(0)
        for move, after in behind(now):
            if after not in found:
                found[after] = found[now] + [move]
                queue.append(after)
    return found


def joint_moves(one, other, pair, hurry):
    first, second = pair
    can_hand = len(one.due(first)) <= hurry and len(other.due(second)) <= hurry
    hands = [("hand", name) for name in one.board.switches] if can_hand else []
    mine = [("first", name) for name in one.due(first)]
    return hands + mine + [("second", name) for name in other.due(second)]


def joint_step(one, other, pair, move):
    first, second = pair
    kind, name = move
    if kind in ("hand", "first"):
        first = one.step(first, name)
    if kind in ("hand", "second"):
        second = other.step(second, name)
    return (first, second)


def reached_pairs(one, other, starts, hurry):
    """A dict in the order of finding: pair -> joint play."""

    def behind(pair):
        return [(move, joint_step(one, other, pair, move)) for move in joint_moves(one, other, pair, hurry)]

    return found_from(starts, behind)


def split(play):
    first, second = [], []
    for kind, name in play:
        if kind == "hand":
            first.append(("hand", name))
            second.append(("hand", name))
        elif kind == "first":
            first.append(("relay", name))
        else:
            second.append(("relay", name))
    return first, second


def parting(one, other, starts, hurry):
    """The plays and shows of the first pair at rest with different shows, or None."""
    for pair, play in reached_pairs(one, other, starts, hurry).items():
        first, second = pair
        shows = (one.show(first), other.show(second))
        if one.rests(first) and other.rests(second) and shows[0] != shows[1]:
            return (*split(play), shows)
    return None


def agree(one, other, hurry):
    """None, ("one" or "other", play, moves), or (first, second, shows)."""
    for which, slow in (("one", one), ("other", other)):
        found = slow.trouble([slow.start], hurry)
        if found is not None:
            return (which, *found)
    return parting(one, other, [(one.start, other.start)], hurry)


def possible(slow, switching, hurry):
    """The set of all states that plays of the switching lead to."""
    states = relay_closed(slow, {slow.start})
    for name in switching:
        moved = [state for state in states if len(slow.due(state)) <= hurry]
        states = relay_closed(slow, {slow.step(state, name) for state in moved})
    return states


def relay_closed(slow, states):
    while True:
        more = states | {slow.step(state, name) for state in states for name in slow.due(state)}
        if more == states:
            return states
        states = more


def ascending(states):
    """The states as point 60 orders them."""
    return sorted(states, key=lambda state: ["01"[on] for on in state[0]] + ["01"[state[1]]])


def rest_shows(slow, switching, hurry):
    """The set of all shows of states at rest that plays of the switching lead to."""
    return {slow.show(state) for state in possible(slow, switching, hurry) if slow.rests(state)}


def switchings(board, most):
    """All switchings of at most so many hands, in the order of point 76."""
    level = [[]]
    for _ in range(most + 1):
        yield from level
        level = [switching + [name] for switching in level for name in board.switches]


def states_of(slow, play):
    states = [slow.start]
    for _, name in play:
        states.append(slow.step(states[-1], name))
    return states


def case_of(slow, lamp, play):
    """The case of the lamp behind a play without hurry (point 71), from the whole play."""
    states = states_of(slow, play)
    hands = [number for number, move in enumerate(play) if move[0] == "hand"]
    if not hands:
        return (states[-1], None, False)
    # The part of the last hand: the state before it, and those behind its moves.
    before, *part = [lamp in slow.show(state)[0] for state in states[hands[-1]:]]
    if not slow.rests(states[-1]):
        return (states[-1], (before, any(lit != before for lit in part)), False)
    flashed = part[-1] == before and any(lit != before for lit in part[:-1])
    return (states[-1], None, flashed)


def cases(slow, lamp):
    """A dict in the order of finding: case -> the first play to it."""
    found = {case_of(slow, lamp, []): []}
    queue = list(found)
    while queue:
        case = queue.pop(0)
        if case[2]:
            continue
        for move, _ in slow.behind(case[0], 0):
            play = found[case] + [move]
            after = case_of(slow, lamp, play)
            if after not in found:
                found[after] = play
                queue.append(after)
    return found


def first_flash(slow, lamp):
    """The play and the number of its last hand, or None."""
    for case, play in cases(slow, lamp).items():
        if case[2]:
            return play, max(number for number, move in enumerate(play) if move[0] == "hand")
    return None


def changed_state(one, other, state):
    """Point 85 for two boards (not Slow ones) with the same face."""
    movers = list(state[0][:len(one.switches)])
    up = [relay[0] for relay, on in zip(one.relays, state[0][len(one.switches):]) if on]
    movers += [relay[0] in up for relay in other.relays]
    return (tuple(movers), state[1] or naive.short(other, tuple(movers)))


def moments(one, other, hurry):
    """The pairs of a moment and its changed state, each with the first play to the moment."""
    for state, play in one.reached([one.start], hurry).items():
        if one.rests(state):
            yield (state, changed_state(one.board, other.board, state)), play


def change(one, other, hurry):
    """None, ("one", play, moves), (before, play, moves) or (before, first, second, shows)."""
    found = one.trouble([one.start], hurry)
    if found is not None:
        return ("one", *found)
    for (state, changed), before in moments(one, other, hurry):
        found = other.trouble([changed], hurry)
        if found is not None:
            return (before, *found)
        found = parting(one, other, [(state, changed)], hurry)
        if found is not None:
            return (before, *found)
    return None


def change_counts(one, other, hurry):
    """What point 88 counts: states of the one, states of the other, and pairs."""
    starts = [pair for pair, _ in moments(one, other, hurry)]
    states = one.reached([one.start], hurry)
    changed = other.reached([pair[1] for pair in starts], hurry)
    return [len(states), len(changed), len(reached_pairs(one, other, starts, hurry))]


def agree_count(one, other, hurry):
    """The greatest of what `agree` counts for the two boards."""
    pairs = reached_pairs(one, other, [(one.start, other.start)], hurry)
    return max(len(one.reached([one.start], hurry)), len(other.reached([other.start], hurry)), len(pairs))


def use_of(slow, number, hurry):
    """The word of the contact, and the greatest of what its questions count."""
    board = slow.board
    one, other, mover, when, way = board.contacts[number]
    questions = [("idle", board.without_contact(number))]
    if way == "both":
        for word, ends in (("forward", (one, other)), ("back", (other, one))):
            questions.append((word, board.replace_contact(number, (*ends, mover, when, "forward"))))
    counts = []
    for word, changed in questions:
        changed = Slow(changed)
        counts.append(agree_count(slow, changed, hurry))
        if agree(slow, changed, hurry) is None:
            return word, max(counts)
    return ("forward" if way == "forward" else "needed"), max(counts)
