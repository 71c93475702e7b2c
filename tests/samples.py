"""Boards for the tests, and a die whose throws are the same in every run."""

from leverhouse.boards import Board

NAMES = "abcdefghijklmnopqrstuvwxyz"


class Dice:
    """Numbers in a fixed disorder."""

    def __init__(self, seed):
        self.now = seed * 7919 + 17

    def below(self, count):
        self.now = (self.now * 6364136223846793005 + 1442695040888963407) % 2 ** 64
        return (self.now >> 33) % count

    def pick(self, items):
        return items[self.below(len(items))]

    def two(self, items):
        one = self.pick(items)
        other = self.pick([item for item in items if item != one])
        return one, other


def node_names(count):
    return ["p", "m"] + [f"n{k}" for k in range(count - 2)]


def switch_names(count):
    return [f"s{k}" for k in range(count)]


def relay_parts(count, nodes):
    return [(f"r{k}", nodes[k % len(nodes)], nodes[(k + 1) % len(nodes)]) for k in range(count)]


def lamp_parts(count, nodes):
    return [(f"l{k}", nodes[(k + 1) % len(nodes)], nodes[k % len(nodes)]) for k in range(count)]


def contact_parts(count, nodes, movers):
    contacts = []
    for k in range(count):
        one, other = nodes[k % len(nodes)], nodes[(k + 1) % len(nodes)]
        mover = movers[k % len(movers)] if movers and k % 3 else None
        when = "break" if mover is not None and k % 2 else "make"
        contacts.append((one, other, mover, when, "forward" if k % 4 == 0 else "both"))
    return contacts


def sized_board(nodes=3, switches=1, relays=1, lamps=1, contacts=1, kind=list):
    """A board with this number of parts of each kind."""
    names = node_names(nodes)
    hands = switch_names(switches)
    coils = relay_parts(relays, names)
    movers = hands + [coil[0] for coil in coils]
    return Board(
        nodes=kind(names),
        switches=kind(hands),
        relays=kind(coils),
        lamps=kind(lamp_parts(lamps, names)),
        contacts=kind(contact_parts(contacts, names, movers)),
    )


def odd_board(seed, most_switches=3, most_relays=3, most_contacts=10):
    """A board in which anything may stand anywhere."""
    dice = Dice(seed)
    nodes = node_names(3 + dice.below(3))
    switches = switch_names(dice.below(most_switches + 1))
    relays = [(f"r{k}", *dice.two(nodes)) for k in range(dice.below(most_relays + 1))]
    lamps = [(f"l{k}", *dice.two(nodes)) for k in range(1 + dice.below(2))]
    movers = switches + [relay[0] for relay in relays]
    contacts = []
    for _ in range(dice.below(most_contacts + 1)):
        mover = dice.pick(movers + [None])
        when = "make" if mover is None else dice.pick(["make", "break"])
        contacts.append((*dice.two(nodes), mover, when, dice.pick(["both", "forward"])))
    return Board(nodes=nodes, switches=switches, relays=relays, lamps=lamps, contacts=contacts)


def busy_board(seed, switches=2, relays=3):
    """A board whose relays have coils at minus and contacts from plus, so that many of them move."""
    dice = Dice(seed)
    nodes = node_names(2 + relays)
    inner = nodes[2:]
    hands = switch_names(switches)
    coils = []
    for k in range(relays):
        ends = (inner[k], "m")
        coils.append((f"r{k}", *(ends if dice.below(2) else ends[::-1])))
    movers = hands + [coil[0] for coil in coils]
    contacts = []
    for node in inner:
        for _ in range(1 + dice.below(2)):
            source = dice.pick(["p", "p", dice.pick([other for other in nodes if other != node])])
            way = dice.pick(["both", "both", "forward"])
            contacts.append((source, node, dice.pick(movers), dice.pick(["make", "break"]), way))
    if dice.below(4) == 0:
        contacts.append(("p", "m", dice.pick(movers), "make", "both"))
    lamps = [("l0", dice.pick(inner), "m"), ("l1", *dice.two(nodes))]
    return Board(nodes=nodes, switches=hands, relays=coils, lamps=lamps, contacts=contacts)


def deep_board(seed, switches=1, relays=2):
    """A board whose relays and lamps are fed through one contact or through two in a row."""
    dice = Dice(seed)
    targets = [f"t{k}" for k in range(relays + 2)]
    nodes = ["p", "m", *targets]
    hands = switch_names(switches)
    coils = [(f"r{k}", targets[k], "m") for k in range(relays)]
    movers = hands + [coil[0] for coil in coils]
    contacts = []
    for target in targets:
        for _ in range(1 + dice.below(2)):
            source = "p"
            if dice.below(3):
                nodes.append(f"n{len(nodes)}")
                source = nodes[-1]
                contacts.append(("p", source, dice.pick(movers), dice.pick(["make", "break"]), "both"))
            contacts.append((source, target, dice.pick(movers), dice.pick(["make", "break"]), "both"))
    lamps = [("l0", targets[-1], "m"), ("l1", "m", targets[-2])]
    return Board(nodes=nodes, switches=hands, relays=coils, lamps=lamps, contacts=contacts)


def bridge_board(seed):
    """A board with lamps at nodes that are fed by themselves and through each other."""
    dice = Dice(seed)
    movers = ["s", "t", "r"]
    contacts = [("p", "a", "s", "make", "both"), ("p", "b", "t", dice.pick(["make", "break"]), "both")]
    for _ in range(2 + dice.below(3)):
        mover = dice.pick([None, None, *movers])
        when = "make" if mover is None else dice.pick(["make", "break"])
        contacts.append((*dice.two(["a", "b", "c"]), mover, when, dice.pick(["both", "both", "forward"])))
    lamps = [("x", "a", "m"), ("y", "b", "m"), ("z", *dice.two(["a", "b", "c", "m"]))]
    relays = [("r", dice.pick(["a", "b", "c"]), "m")]
    return Board(nodes=["p", "m", "a", "b", "c"], switches=["s", "t"], relays=relays, lamps=lamps, contacts=contacts)


def small_board(nodes="a", switches="", coils=(), lamps=("xa",), contacts=()):
    """A board of names of one letter, between the nodes p and m and some others.

    The coil `ra` is that of the relay r, from the node a to minus; the coil `rab` lies between a and b;
    lamps are given in the same way. The contact `pas` goes from p to a and is closed while
    s is on; `pa-` is a wire; `pa!s` is closed while s is off; `pas>` leads from p to a alone.
    """
    return Board(
        nodes=["p", "m", *nodes],
        switches=list(switches),
        relays=[(part[0], part[1], part[2:] or "m") for part in coils],
        lamps=[(part[0], part[1], part[2:] or "m") for part in lamps],
        contacts=[small_contact(part) for part in contacts],
    )


def small_contact(text):
    way = "forward" if text.endswith(">") else "both"
    when = "break" if "!" in text else "make"
    one, other, mover = text.replace(">", "").replace("!", "")
    return (one, other, None if mover == "-" else mover, when, way)


def small_play(text):
    """The play of these words: a name in capitals is that of a hand, any other one that of a relay."""
    return [("hand", word.lower()) if word.isupper() else ("relay", word) for word in text.split()]


def board_like(board, **parts):
    """The board with some of its parts put in the place of its own."""
    own = {
        "nodes": board.nodes,
        "switches": board.switches,
        "relays": board.relays,
        "lamps": board.lamps,
        "contacts": board.contacts,
    }
    return Board(**{**own, **parts})


def twin_of(board, seed):
    """A board of the same face that is another one in some way, most often by a contact."""
    dice = Dice(seed)
    kind = dice.below(8)
    count = len(board.contacts)
    number = dice.below(count) if count else 0
    mover = dice.pick([*board.movers, None])
    when = "make" if mover is None else dice.pick(["make", "break"])
    contact = (*dice.two(board.nodes), mover, when, dice.pick(["both", "forward"]))
    if kind == 0:
        return board_like(board, relays=board.relays[::-1], contacts=board.contacts[::-1])
    if kind == 1:
        lamps = [(board.lamps[0][0], *dice.two(board.nodes)), *board.lamps[1:]]
        return board_like(board, lamps=lamps)
    if kind == 2 and board.relays:
        left = [part for part in board.contacts if part[2] != board.relays[-1][0]]
        return board_like(board, relays=board.relays[:-1], contacts=left)
    if kind == 3 or not count:
        return board.insert_contact(number, contact)
    if kind == 4:
        return board.replace_contact(number, contact)
    if kind == 5:
        one, other, mover, when, way = board.contacts[number]
        way = "forward" if way == "both" else "both"
        return board.replace_contact(number, (one, other, mover, when, way))
    return board.without_contact(number)


def all_positions(board):
    """All positions of the movers of the board."""
    positions = [()]
    for _ in board.movers:
        positions = [row + (on,) for row in positions for on in (False, True)]
    return positions


def parts_of(board):
    return (board.nodes, board.switches, board.relays, board.lamps, board.contacts)
