"""Moves, plays and what they lead to (points 19 to 26)."""

from leverhouse.boards import is_good_name
from leverhouse.current import is_short
from leverhouse.errors import InvalidNotation, InvalidPlay, InvalidState
from leverhouse.machine import Machine

KINDS = ("hand", "relay")


class Outcome:
    """What a play leads to: its last state, the relays that are due in it, and its show."""

    def __init__(self, state, due, show):
        self.state = state
        self.due = list(due)
        self.show = show

    @property
    def at_rest(self):
        """True if no relay is due."""
        return len(self.due) == 0


def check_state(board, state):
    """Raises InvalidState if this is no state of the board."""
    movers, blown = state
    if len(movers) != len(board.movers):
        raise InvalidState("the state has another number of movers than the board")
    if not blown and is_short(board, state):
        raise InvalidState("the fuse is whole although there is a short")


def first_state(board):
    """The state in which every mover is off."""
    return Machine(board).start()


def due(board, state):
    """The names of the relays that are due."""
    names = board.movers
    return [names[number] for number in Machine(board).due_numbers(state)]


def is_rest(board, state):
    """True if no relay is due."""
    return Machine(board).rests(state)


def can_move(board, state, move, *, hurry=0):
    """True if the move can be made in the state."""
    # The number is not needed, but a name that no mover has is an error.
    board.mover_number(move[1])
    return move in dict(Machine(board, hurry).steps(state))


def step(board, state, move):
    """The state behind the move, whether or not it can be made."""
    return Machine(board).behind(state, board.mover_number(move[1]))


def show(board, state):
    """The live lamps, and whether the fuse is blown."""
    return Machine(board).shown(state)


def walk(board, play, *, hurry=0):
    """Yields the first state and the state behind each move of the play."""
    machine = Machine(board, hurry)
    state = machine.start()
    yield state
    # A copy, for the list may be changed from outside between two of the states.
    for number, move in enumerate(list(play)):
        state = dict(machine.steps(state)).get(move)
        if state is None:
            raise InvalidPlay(number)
        yield state


def run(board, play, *, hurry=0):
    """The Outcome of the play."""
    states = list(walk(board, play, hurry=hurry))
    last = states[-1]
    return Outcome(last, due(board, last), show(board, last))


def switching_of(play):
    """The names of the switches that the hands of the play move."""
    return [name for kind, name in play if kind == "hand"]


def play_text(play):
    """The text of the play."""
    return "\n".join([f"{kind} {name}" for kind, name in play])


def parse_play(text):
    """The play with this text."""
    if text == "":
        return []
    return [_parse_move(line, number) for number, line in enumerate(text.split("\n"), start=1)]


def _parse_move(line, number):
    words = line.split(" ")
    if len(words) != 2 or words[0] not in KINDS or not is_good_name(words[1]):
        raise InvalidNotation(number)
    return (words[0], words[1])
