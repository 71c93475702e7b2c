"""Whether two boards show the same at rest (points 49 to 54)."""

from leverhouse.boards import check_faces
from leverhouse.pairs import Couple, split_play
from leverhouse.plays import check_state
from leverhouse.search import LIMIT, search_all
from leverhouse.settling import first_restless, is_falling, longest_rows


class Unsettled:
    """Why boards do not agree: one of them does not settle, as its Round tells."""

    def __init__(self, which, play, moves):
        self.which = which
        self.play = list(play)
        self.moves = list(moves)


class Parting:
    """Why boards do not agree: plays of one switching, and the different shows they lead to."""

    def __init__(self, first, second, shows):
        self.first = list(first)
        self.second = list(second)
        self.shows = shows


class Meeting:
    """Two boards of one face, searched each by itself and then together."""

    def __init__(self, one, other, hurry, limit):
        check_faces(one, other)
        self.couple = Couple(one, other, hurry)
        self.one = search_all(self.couple.first, limit)
        self.other = search_all(self.couple.second, limit)
        self.pairs = search_all(self.couple, limit)


def agree(one, other, *, hurry=0, limit=LIMIT):
    """None if the boards agree, otherwise an Unsettled or a Parting."""
    return _result(Meeting(one, other, hurry, limit))


def agreement(one, other, *, hurry=0, limit=LIMIT):
    """The entries that show that the boards agree, or None if they do not."""
    meeting = Meeting(one, other, hurry, limit)
    if _result(meeting) is not None:
        return None
    ahead = longest_rows(meeting.couple.first, meeting.one.states)
    beside = longest_rows(meeting.couple.second, meeting.other.states)
    return [(first, second, ahead[first] + beside[second]) for first, second in meeting.pairs.states]


def check_agreement(one, other, entries, *, hurry=0):
    """True if the entries show that the boards agree."""
    check_faces(one, other)
    for first, second, _ in entries:
        check_state(one, first)
        check_state(other, second)
    couple = Couple(one, other, hurry)
    table = [((first, second), number) for first, second, number in entries]
    if any([couple.parts(pair) for pair, _ in table]):
        return False
    return is_falling(couple, table)


def _result(meeting):
    couple = meeting.couple
    found = unsettled("one", couple.first, meeting.one)
    if found is None:
        found = unsettled("other", couple.second, meeting.other)
    if found is None:
        found = first_parting(couple, meeting.pairs)
    return found


def unsettled(which, machine, search):
    """The Unsettled of a board that was searched, or None if it settles."""
    found = first_restless(machine, search)
    return None if found is None else Unsettled(which, found.play, found.moves)


def first_parting(couple, search):
    """The Parting at the first of the found pairs at rest with different shows, or None."""
    for pair in search.states:
        if couple.parts(pair):
            first, second = split_play(search.play_to(pair))
            return Parting(first, second, couple.shown(pair))
    return None
