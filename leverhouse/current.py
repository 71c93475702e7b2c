"""Which contacts are closed, and where current flows (points 15 to 18)."""

from leverhouse.boards import check_number

PLUS = 0
MINUS = 1


def closes(contact, on):
    """True if the contact is closed when its mover is on, or off."""
    _, _, mover, when, _ = contact
    return mover is None or (when == "make") == on


def closed_contacts(board, state):
    """The numbers of the closed contacts."""
    on = dict(zip(board.movers, state[0]))
    numbers = []
    for number, contact in enumerate(board.contacts):
        if closes(contact, on.get(contact[2], False)):
            numbers.append(number)
    return numbers


def is_closed(board, state, number):
    """True if the contact with this number is closed."""
    check_number(number, len(board.contacts))
    return number in closed_contacts(board, state)


def fed(board, state):
    """The names of the nodes that are fed."""
    return marked(board.nodes, Net(board).fed_nodes(state[0]))


def feeds(board, state):
    """The names of the nodes that feed minus."""
    return marked(board.nodes, Net(board).feeding_nodes(state[0]))


def is_short(board, state):
    """True if minus is fed."""
    return Net(board).fed_nodes(state[0])[MINUS]


def live_relays(board, state):
    """The names of the relays whose coils are live."""
    movers, blown = state
    names = [name for name, _, _ in board.relays]
    return [] if blown else marked(names, Net(board).flow(movers).coils)


def live_lamps(board, state):
    """The names of the lamps that are live."""
    movers, blown = state
    names = [name for name, _, _ in board.lamps]
    return [] if blown else marked(names, Net(board).flow(movers).bulbs)


def marked(names, marks):
    """The names whose marks are True."""
    return [name for name, mark in zip(names, marks) if mark]


class Flow:
    """What current does while the fuse is whole: the short, and each coil and lamp that is live."""

    def __init__(self, short, coils, bulbs):
        self.short = short
        self.coils = coils
        self.bulbs = bulbs


class Net:
    """A board with numbers in the place of the names of its nodes and movers."""

    def __init__(self, board):
        nodes = {name: number for number, name in enumerate(board.nodes)}
        movers = {name: number for number, name in enumerate(board.movers)}
        self._size = len(board.nodes)
        self._coils = [(nodes[one], nodes[other]) for _, one, other in board.relays]
        self._bulbs = [(nodes[one], nodes[other]) for _, one, other in board.lamps]
        self._links = []
        for contact in board.contacts:
            one, other, mover, _, way = contact
            self._links.append((contact, movers.get(mover), nodes[one], nodes[other], way == "both"))

    def fed_nodes(self, movers):
        """For each node, whether it is fed at these positions of the movers."""
        return _spread(PLUS, self._arrows(movers), self._size)

    def feeding_nodes(self, movers):
        """For each node, whether it feeds minus at these positions of the movers."""
        return _spread(MINUS, _turned(self._arrows(movers)), self._size)

    def flow(self, movers):
        """The Flow at these positions of the movers."""
        arrows = self._arrows(movers)
        fed_marks = _spread(PLUS, arrows, self._size)
        feeding = _spread(MINUS, _turned(arrows), self._size)
        coils = [_is_live(ends, fed_marks, feeding) for ends in self._coils]
        bulbs = [_is_live(ends, fed_marks, feeding) for ends in self._bulbs]
        return Flow(fed_marks[MINUS], coils, bulbs)

    def _arrows(self, movers):
        """The pairs of nodes such that a closed contact carries current from the first to the second."""
        arrows = []
        for contact, mover, one, other, both in self._links:
            if closes(contact, mover is not None and movers[mover]):
                arrows.append((one, other))
                if both:
                    arrows.append((other, one))
        return arrows


def _turned(arrows):
    return [(head, tail) for tail, head in arrows]


def _spread(start, arrows, size):
    """For each of so many nodes, whether the arrows lead to it from the start."""
    heads = [[] for _ in range(size)]
    for tail, head in arrows:
        heads[tail].append(head)
    found = [False for _ in range(size)]
    found[start] = True
    waiting = [start]
    while waiting:
        node = waiting.pop()
        for head in heads[node]:
            if not found[head]:
                found[head] = True
                waiting.append(head)
    return found


def _is_live(ends, fed_marks, feeding):
    one, other = ends
    return fed_marks[one] and feeding[other] or fed_marks[other] and feeding[one]
