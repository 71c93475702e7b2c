"""Timed runs done again in the most literal way, to compare the program with."""

from tests import naive


class LogRun:
    """A run that writes down, behind each move, the instant, the mover and the relays that are due."""

    def __init__(self, board, up, down):
        self.board = board
        self.delays = {name: (rise, fall) for (name, _, _), rise, fall in zip(board.relays, up, down)}
        self.state = naive.first_state(board)
        self.log = [(0, None, naive.due(board, self.state))]
        self.moves = []

    def move(self, instant, kind, name):
        self.state = naive.step(self.board, self.state, name)
        self.log.append((instant, name, naive.due(self.board, self.state)))
        self.moves.append((instant, (kind, name)))

    def due_since(self, name):
        """The instant of the earliest entry such that the relay is due in it and in all behind it.

        It is not earlier than the last move of the relay.
        """
        at = len(self.log)
        while at > 0 and name in self.log[at - 1][2]:
            at -= 1
            if self.log[at][1] == name:
                break
        return self.log[at][0]

    def look_at(self, instant, name):
        if name not in self.log[-1][2]:
            return
        rise, fall = self.delays[name]
        up = naive.position(self.board, self.state[0], name)
        if instant - self.due_since(name) >= (fall if up else rise):
            self.move(instant, "relay", name)


def timed_run(board, up, down, events, until):
    """The moves, the show at the end of each instant, the instants at whose end relays are due, the state."""
    run = LogRun(board, up, down)
    shows, busy = [], []
    for instant in range(until + 1):
        for at, name in events:
            if at == instant:
                run.move(instant, "hand", name)
        for name, _, _ in board.relays:
            run.look_at(instant, name)
        shows.append((tuple(naive.live(board, run.state, board.lamps)), run.state[1]))
        if naive.due(board, run.state):
            busy.append(instant)
    return run.moves, shows, busy, run.state


def told_shows(shows):
    """The shows as a TimedRun gives them."""
    return [(at, show) for at, show in enumerate(shows) if at == 0 or show != shows[at - 1]]


def told_rest(busy, until):
    rest = max(busy) + 1 if busy else 0
    return rest if rest <= until else None
