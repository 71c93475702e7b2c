"""Boards whose relays take their time (points 93 to 99)."""

from leverhouse.errors import InvalidPlay, InvalidTiming
from leverhouse.machine import Machine

LEAST_DELAY = 1
MOST_DELAY = 1000


class Delays:
    """For each relay of a board, how many instants it has to be due before it goes up, or down."""

    def __init__(self, board, *, up, down):
        self.board = board
        self.up = tuple(up)
        self.down = tuple(down)
        for number, (rising, falling) in enumerate(zip(self.up, self.down)):
            if not _is_delay(rising) or not _is_delay(falling):
                raise InvalidTiming(number)

    def delay(self, state, number):
        """The delay of the relay with this number for its next move in the state."""
        movers, _ = state
        is_up = movers[len(self.board.switches) + number]
        return self.down[number] if is_up else self.up[number]


def _is_delay(instants):
    return LEAST_DELAY <= instants <= MOST_DELAY


class TimedRun:
    """What a board did up to an instant: its moves and shows, its last state, and when it rested."""

    def __init__(self, until, moves, shows, state, rest):
        self.until = until
        self.moves = list(moves)
        self.shows = list(shows)
        self.state = state
        self.rest = rest

    def plain(self):
        """The moves without their instants."""
        return [move for _, move in self.moves]


class Course:
    """A board with delays as it runs: its state, the moves so far, and since when relays are due."""

    def __init__(self, delays):
        self._delays = delays
        self._board = delays.board
        self._machine = Machine(delays.board)
        self.state = self._machine.start()
        self.moves = []
        self._due_since = {number: 0 for number in self._machine.due_numbers(self.state)}

    def spend(self, instant, hands):
        """Makes the moves of this instant: those of the hands, then those of the relays."""
        for name in hands:
            self._move(instant, "hand", name)
        for number, (name, _, _) in enumerate(self._board.relays):
            if self._is_over(instant, number):
                self._move(instant, "relay", name)

    def rests(self):
        """True if no relay is due."""
        return self._machine.rests(self.state)

    def shown(self):
        """The show of the state."""
        return self._machine.shown(self.state)

    def _is_over(self, instant, number):
        """True if the relay with this number has been due for as long as its delay tells."""
        since = self._due_since.get(len(self._board.switches) + number)
        return since is not None and instant - since >= self._delays.delay(self.state, number)

    def _move(self, instant, kind, name):
        moved = self._board.mover_number(name)
        self.state = self._machine.behind(self.state, moved)
        self.moves.append((instant, (kind, name)))
        earlier = self._due_since
        self._due_since = {}
        for number in self._machine.due_numbers(self.state):
            # A relay that is due again behind its own move has to wait anew.
            self._due_since[number] = instant if number == moved else earlier.get(number, instant)


def timed_run(delays, events, *, until):
    """The TimedRun of a board with delays, whose hands move at the instants of the events."""
    hands = _hands_of(delays.board, events)
    course = Course(delays)
    shows = []
    rest = None
    for instant in range(until + 1):
        course.spend(instant, hands.get(instant, []))
        shown = course.shown()
        if instant == 0 or shows[-1][1] != shown:
            shows.append((instant, shown))
        if not course.rests():
            rest = None
        elif rest is None:
            rest = instant
    return TimedRun(until, course.moves, shows, course.state, rest)


def _hands_of(board, events):
    """For each instant with events, the names of the switches that are moved at it, in their order."""
    hands = {}
    earlier = 0
    for number, (instant, name) in enumerate(events):
        if instant < earlier or name not in board.switches:
            raise InvalidPlay(number)
        hands.setdefault(instant, []).append(name)
        earlier = instant
    return hands


def pulses(run, lamp):
    """The spans of instants at whose ends the lamp is live, each with its first and behind its last."""
    spans = []
    start = None
    for instant, (lit, _) in run.shows:
        if lamp in lit and start is None:
            start = instant
        if lamp not in lit and start is not None:
            spans.append((start, instant))
            start = None
    if start is not None:
        spans.append((start, run.until + 1))
    return spans


def lit_time(run, lamp):
    """The number of instants at whose ends the lamp is live."""
    return sum([end - start for start, end in pulses(run, lamp)])


def shown_at(run, instant):
    """The show at the end of the instant."""
    return [shown for start, shown in run.shows if start <= instant][-1]


def first_difference(one, other):
    """The least instant at whose end the two runs show different things, or None."""
    for instant in range(min(one.until, other.until) + 1):
        if shown_at(one, instant) != shown_at(other, instant):
            return instant
    return None
