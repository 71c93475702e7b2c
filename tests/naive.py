"""The points of the document done again in the most literal way, to compare the program with."""

from tests.samples import all_positions


def position(board, movers, name):
    return movers[[*board.switches, *[relay[0] for relay in board.relays]].index(name)]


def closed(board, movers):
    numbers = []
    for number, (_, _, mover, when, _) in enumerate(board.contacts):
        if mover is None:
            numbers.append(number)
        elif when == "make" and position(board, movers, mover):
            numbers.append(number)
        elif when == "break" and not position(board, movers, mover):
            numbers.append(number)
    return numbers


def carries(board, movers):
    """The set of pairs of nodes: current goes from the one to the other."""
    pairs = set()
    for number in closed(board, movers):
        one, other, _, _, way = board.contacts[number]
        pairs.add((one, other))
        if way == "both":
            pairs.add((other, one))
    return pairs


def grown(start, pairs):
    """All nodes to which the pairs lead from the start, by going over all pairs again and again."""
    nodes = {start}
    while True:
        more = {head for tail, head in pairs if tail in nodes} | nodes
        if more == nodes:
            return nodes
        nodes = more


def fed(board, movers):
    nodes = grown(board.nodes[0], carries(board, movers))
    return [node for node in board.nodes if node in nodes]


def feeds(board, movers):
    nodes = grown(board.nodes[1], {(head, tail) for tail, head in carries(board, movers)})
    return [node for node in board.nodes if node in nodes]


def short(board, movers):
    return board.nodes[1] in fed(board, movers)


def states(board):
    """All states of the board, reached or not."""
    for movers in all_positions(board):
        if not short(board, movers):
            yield (movers, False)
        yield (movers, True)


def live(board, state, parts):
    movers, blown = state
    plus, minus = fed(board, movers), feeds(board, movers)
    names = []
    for name, one, other in parts:
        if not blown and (one in plus and other in minus or other in plus and one in minus):
            names.append(name)
    return names


def due(board, state):
    on = live(board, state, board.relays)
    names = [relay[0] for relay in board.relays]
    return [name for name in names if position(board, state[0], name) != (name in on)]


def first_state(board):
    movers = (False,) * (len(board.switches) + len(board.relays))
    return (movers, short(board, movers))


def step(board, state, name):
    movers, blown = state
    changed = list(movers)
    names = [*board.switches, *[relay[0] for relay in board.relays]]
    changed[names.index(name)] = not changed[names.index(name)]
    return (tuple(changed), blown or short(board, tuple(changed)))


def moves(board, state, hurry):
    waiting = due(board, state)
    hands = [("hand", name) for name in board.switches] if len(waiting) <= hurry else []
    return hands + [("relay", name) for name in waiting]


def plays_by_length(board, hurry, most):
    """All plays with at most so many moves and their last states, in the order of point 29."""
    level = [([], first_state(board))]
    for _ in range(most + 1):
        yield from level
        longer = []
        for play, state in level:
            for move in moves(board, state, hurry):
                longer.append((play + [move], step(board, state, move[1])))
        level = longer


def reached(board, starts, hurry):
    """A dict in the order of finding: state -> (start, play)."""
    found = {}
    for start in starts:
        if start not in found:
            found[start] = (start, [])
    queue = list(found)
    while queue:
        state = queue.pop(0)
        start, play = found[state]
        for move in moves(board, state, hurry):
            after = step(board, state, move[1])
            if after not in found:
                found[after] = (start, play + [move])
                queue.append(after)
    return found


def relay_rows(board, state, length):
    """All rows of so many relay moves from the state and their last states, in order."""
    rows = [([], state)]
    for _ in range(length):
        longer = []
        for row, last in rows:
            for name in due(board, last):
                longer.append((row + [("relay", name)], step(board, last, name)))
        rows = longer
    return rows


def relay_reach(board, state):
    """The set of states to which one or more relay moves lead."""
    found = set()
    queue = [state]
    while queue:
        last = queue.pop()
        for name in due(board, last):
            after = step(board, last, name)
            if after not in found:
                found.add(after)
                queue.append(after)
    return found


def on_round(board, state):
    return state in relay_reach(board, state)


def longest(board, state):
    """The length of the longest row from the state, from which all rows end."""
    return max([0] + [1 + longest(board, step(board, state, name)) for name in due(board, state)])
