"""A board made ready for many questions about its states."""

from leverhouse.current import Net, marked

MOST_HURRY = 8


class Machine:
    """The states and moves of a board in a hurry.

    What current does at some positions of the movers, and where the moves of a state lead, is
    computed once and kept, because a search comes to the same ones again and again.
    """

    def __init__(self, board, hurry=0):
        self.hurry = hurry
        self._net = Net(board)
        self._flows = {}
        self._known_steps = {}
        self._hand_count = len(board.switches)
        self._lamp_names = [name for name, _, _ in board.lamps]
        hands = [("hand", name) for name in board.switches]
        self._all_moves = hands + [("relay", name) for name, _, _ in board.relays]

    def flow_at(self, movers):
        """The Flow at these positions of the movers."""
        if movers not in self._flows:
            self._flows[movers] = self._net.flow(movers)
        return self._flows[movers]

    def start(self):
        """The first state."""
        movers = tuple([False for _ in self._all_moves])
        return (movers, self.flow_at(movers).short)

    def behind(self, state, number):
        """The state behind a change of the mover with this number."""
        movers, blown = state
        moved = (*movers[:number], not movers[number], *movers[number + 1:])
        return (moved, blown or self.flow_at(moved).short)

    def due_numbers(self, state):
        """The numbers, among the movers, of the relays that are due."""
        movers, blown = state
        numbers = []
        for at, live in enumerate(self.flow_at(movers).coils, start=self._hand_count):
            if movers[at] != (live and not blown):
                numbers.append(at)
        return numbers

    def rests(self, state):
        """True if no relay is due."""
        return len(self.relay_steps(state)) == 0

    def shown(self, state):
        """The show of the state."""
        movers, blown = state
        names = [] if blown else marked(self._lamp_names, self.flow_at(movers).bulbs)
        return (tuple(names), blown)

    def steps(self, state):
        """The moves that can be made in the state, in their order, each with the state behind it."""
        return self.hand_steps(state) + self.relay_steps(state)

    def hand_steps(self, state):
        """The moves of hands that can be made, in their order, each with the state behind it."""
        return self._steps_at(state)[0]

    def relay_steps(self, state):
        """The moves of relays that can be made, in their order, each with the state behind it."""
        return self._steps_at(state)[1]

    def _steps_at(self, state):
        if state not in self._known_steps:
            due = self.due_numbers(state)
            hands = list(range(self._hand_count)) if len(due) <= self.hurry else []
            self._known_steps[state] = (self._steps_of(state, hands), self._steps_of(state, due))
        return self._known_steps[state]

    def _steps_of(self, state, numbers):
        return [(self._all_moves[number], self.behind(state, number)) for number in numbers]
