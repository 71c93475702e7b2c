"""Two boards of one face whose switches are moved together (points 45 to 48)."""

from leverhouse.boards import check_faces
from leverhouse.machine import Machine
from leverhouse.plays import first_state, step
from leverhouse.search import LIMIT, search_all


class Couple:
    """The pairs and joint moves of two boards in a hurry, told as a Machine tells those of one."""

    def __init__(self, one, other, hurry=0):
        self.first = Machine(one, hurry)
        self.second = Machine(other, hurry)

    def start(self):
        """The first pair."""
        return (self.first.start(), self.second.start())

    def steps(self, pair):
        """The joint moves of the pair, in their order, each with the pair behind it."""
        one, other = pair
        steps = []
        # Both boards have the same switches. Where hands cannot move, a board tells none.
        for (move, behind), (_, beside) in zip(self.first.hand_steps(one), self.second.hand_steps(other)):
            steps.append((move, (behind, beside)))
        for (_, name), behind in self.first.relay_steps(one):
            steps.append((("first", name), (behind, other)))
        for (_, name), behind in self.second.relay_steps(other):
            steps.append((("second", name), (one, behind)))
        return steps

    def shown(self, pair):
        """The shows of both boards."""
        one, other = pair
        return (self.first.shown(one), self.second.shown(other))

    def parts(self, pair):
        """True if both boards are at rest and show different things."""
        one, other = pair
        if not self.first.rests(one) or not self.second.rests(other):
            return False
        return self.first.shown(one) != self.second.shown(other)


def first_pair(one, other):
    """The pair of both first states."""
    return (first_state(one), first_state(other))


def joint_moves(one, other, pair, *, hurry=0):
    """The joint moves that can be made in the pair, in their order."""
    return [move for move, _ in Couple(one, other, hurry).steps(pair)]


def joint_step(one, other, pair, move):
    """The pair behind a joint move that can be made."""
    first, second = pair
    own, foreign = split_play([move])
    for part in own:
        first = step(one, first, part)
    for part in foreign:
        second = step(other, second, part)
    return (first, second)


def split_play(play):
    """The plays of the one and of the other board that a joint play is made of."""
    first = [move for move in play if move[0] != "second"]
    second = [move for move in play if move[0] != "first"]
    return (_plain(first), _plain(second))


def _plain(play):
    return [("hand" if kind == "hand" else "relay", name) for kind, name in play]


def all_pairs(one, other, *, hurry=0, limit=LIMIT):
    """The reached pairs in the order in which they are found."""
    check_faces(one, other)
    return search_all(Couple(one, other, hurry), limit).states
