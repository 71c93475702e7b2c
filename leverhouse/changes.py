"""Whether one board can take the place of another one in use (points 85 to 92)."""

from leverhouse.agree import first_parting, unsettled
from leverhouse.boards import check_faces
from leverhouse.current import is_short
from leverhouse.pairs import Couple
from leverhouse.search import LIMIT, search_all, search_from
from leverhouse.settling import first_restless, longest_rows


class LateRound:
    """A change behind which the new board need not come to rest."""

    def __init__(self, before, play, moves):
        self.before = list(before)
        self.play = list(play)
        self.moves = list(moves)


class LateParting:
    """A change behind which the two boards can show different things at rest."""

    def __init__(self, before, first, second, shows):
        self.before = list(before)
        self.first = list(first)
        self.second = list(second)
        self.shows = shows


def changed_state(one, other, state):
    """The state in which `other` takes the place of `one`."""
    on = dict(zip(one.movers, state[0]))
    # The faces are not looked at, so that a name may be a switch's here and a relay's there.
    relays = [name for name, _, _ in one.relays]
    hands = [name in one.switches and on[name] for name in other.switches]
    coils = [name in relays and on[name] for name, _, _ in other.relays]
    movers = (*hands, *coils)
    return (movers, state[1] or is_short(other, (movers, False)))


def change(one, other, *, hurry=0, limit=LIMIT):
    """None if no change at any moment is shown, otherwise what shows the first one."""
    check_faces(one, other)
    couple = Couple(one, other, hurry)
    search = search_all(couple.first, limit)
    moments = [state for state in search.states if couple.first.rests(state)]
    starts = [(moment, changed_state(one, other, moment)) for moment in moments]
    later = search_from(couple.second, [changed for _, changed in starts], limit)
    pairs = search_from(couple, starts, limit)
    found = unsettled("one", couple.first, search)
    if found is not None:
        return found
    restless = _restless_states(couple.second, later.states)
    parted = _parted_pairs(couple, pairs.states)
    for moment, changed in starts:
        if changed in restless:
            return _late_round(couple, search.play_to(moment), changed, limit)
        if (moment, changed) in parted:
            return _late_parting(couple, search.play_to(moment), (moment, changed), limit)
    return None


def _restless_states(machine, states):
    """A dict of the states from which moves lead to a state on a round."""
    numbers = longest_rows(machine, states)
    return _leading_to(machine, states, [state for state in states if state not in numbers])


def _parted_pairs(couple, pairs):
    """A dict of the pairs from which joint moves lead to different shows at rest."""
    return _leading_to(couple, pairs, [pair for pair in pairs if couple.parts(pair)])


def _leading_to(machine, states, wanted):
    """A dict of the states from which moves lead to one of the wanted states.

    With each of the states, all states behind its moves are among them.
    """
    earlier_states = {state: [] for state in states}
    for state in states:
        for _, behind in machine.steps(state):
            earlier_states[behind].append(state)
    leading = {state: True for state in wanted}
    waiting = list(wanted)
    while waiting:
        state = waiting.pop()
        for earlier in earlier_states[state]:
            if earlier not in leading:
                leading[earlier] = True
                waiting.append(earlier)
    return leading


def _late_round(couple, before, changed, limit):
    found = first_restless(couple.second, search_from(couple.second, [changed], limit))
    return LateRound(before, found.play, found.moves)


def _late_parting(couple, before, pair, limit):
    found = first_parting(couple, search_from(couple, [pair], limit))
    return LateParting(before, found.first, found.second, found.shows)
