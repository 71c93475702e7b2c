"""Whether the relays of a board always come to rest (points 35 to 42)."""

from leverhouse.machine import Machine
from leverhouse.plays import check_state
from leverhouse.search import LIMIT, Search, search_all


class Round:
    """Why a board does not settle: a play to a state, and moves that lead back to this state."""

    def __init__(self, play, moves):
        self.play = list(play)
        self.moves = list(moves)


class Longest:
    """The longest row of relay moves of a board that settles: the last `count` moves of a play."""

    def __init__(self, play, count):
        self.play = list(play)
        self.count = count


def round_from(board, state):
    """The first round from the state, or None."""
    return first_round(Machine(board), state)


def settles(board, *, hurry=0, limit=LIMIT):
    """A Round if the board does not settle, otherwise a Longest."""
    machine = Machine(board, hurry)
    search = search_all(machine, limit)
    found = first_restless(machine, search)
    return _longest_of(machine, search) if found is None else found


def ranks(board, *, hurry=0, limit=LIMIT):
    """The list of each reached state with its number, or None if the board does not settle."""
    machine = Machine(board, hurry)
    search = search_all(machine, limit)
    numbers = longest_rows(machine, search.states)
    if len(numbers) < len(search.states):
        return None
    return [(state, numbers[state]) for state in search.states]


def check_ranks(board, table, *, hurry=0):
    """True if the table of states and numbers shows that the board settles."""
    for state, _ in table:
        check_state(board, state)
    return is_falling(Machine(board, hurry), table)


def is_falling(machine, table):
    """True if a table of states and numbers holds the start and, with each state, all behind it.

    Behind the move of a relay, a state has to stand there with a smaller number.
    """
    least = {}
    for state, number in table:
        least[state] = min(number, least.get(state, number))
    if machine.start() not in least:
        return False
    return all([_falls_from(machine, least, state, number) for state, number in table])


def _falls_from(machine, least, state, number):
    for (kind, _), behind in machine.steps(state):
        if behind not in least:
            return False
        if kind != "hand" and least[behind] >= number:
            return False
    return True


def first_restless(machine, search):
    """The Round at the first of the found states that is on a round, or None."""
    numbers = longest_rows(machine, search.states)
    for state in search.states:
        # No state with a number is on a round, so most searches for rounds are spared.
        if state not in numbers:
            moves = first_round(machine, state)
            if moves is not None:
                return Round(search.play_to(state), moves)
    return None


def first_round(machine, start):
    """The first round from the state, or None."""
    origins = {start: None}
    waiting = [start]
    while waiting:
        later = []
        for state in waiting:
            for move, behind in machine.relay_steps(state):
                if behind == start:
                    return Search(origins).play_to(state) + [move]
                if behind not in origins:
                    origins[behind] = (state, move)
                    later.append(behind)
        waiting = later
    return None


def longest_rows(machine, states):
    """The length of the longest row of relay moves from each state from which all rows end.

    With each of the states, all states to which relays lead from it are among them.
    """
    steps_left = {}
    earlier_states = {state: [] for state in states}
    for state in states:
        steps = machine.relay_steps(state)
        steps_left[state] = len(steps)
        for _, behind in steps:
            earlier_states[behind].append(state)
    numbers = {}
    ready = [state for state in states if steps_left[state] == 0]
    count = 0
    # A state is ready as soon as all states behind it have numbers; those on rounds never are.
    while ready:
        later = []
        for state in ready:
            numbers[state] = count
            for earlier in earlier_states[state]:
                steps_left[earlier] -= 1
                if steps_left[earlier] == 0:
                    later.append(earlier)
        ready = later
        count += 1
    return numbers


def _longest_of(machine, search):
    numbers = longest_rows(machine, search.states)
    count = max([numbers[state] for state in search.states])
    state = [found for found in search.states if numbers[found] == count][0]
    play = search.play_to(state)
    for left in reversed(range(count)):
        steps = [step for step in machine.relay_steps(state) if numbers[step[1]] == left]
        move, state = steps[0]
        play.append(move)
    return Longest(play, count)
