"""Faults, what shows them, and suites, done again by trying everything."""

from leverhouse.boards import Board
from tests import slow


def all_faults(board):
    faults = [("open", number) for number in range(len(board.contacts))]
    faults += [("closed", number) for number, contact in enumerate(board.contacts) if contact[2] is not None]
    return faults + [("coil", relay[0]) for relay in board.relays]


def parts_with(board, fault):
    """The relays and contacts of the board with this fault."""
    kind, part = fault
    relays, contacts = [], []
    for relay in board.relays:
        if (kind, part) != ("coil", relay[0]):
            relays.append(relay)
    for number, (one, other, mover, when, way) in enumerate(board.contacts):
        wire = (one, other, None, "make", way)
        if (kind, part) == ("open", number):
            continue
        if (kind, part) == ("closed", number):
            contacts.append(wire)
        elif kind == "coil" and mover == part:
            contacts += [wire] if when == "break" else []
        else:
            contacts.append((one, other, mover, when, way))
    return relays, contacts


def faulty(board, fault):
    relays, contacts = parts_with(board, fault)
    return Board(
        nodes=board.nodes, switches=board.switches, lamps=board.lamps, relays=relays, contacts=contacts
    )


class Bench:
    """A board in a hurry, with the boards of its faults."""

    def __init__(self, board, hurry):
        self.board = slow.Slow(board)
        self.hurry = hurry
        self._changed = {}

    def changed(self, fault):
        if fault not in self._changed:
            self._changed[fault] = slow.Slow(faulty(self.board.board, fault))
        return self._changed[fault]

    def verdict(self, fault):
        """None, (switching, shows), or the play and the round in a list."""
        found = slow.agree(self.board, self.changed(fault), self.hurry)
        if found is None:
            return None
        if found[0] == "other":
            return [found[1], found[2]]
        return ([name for kind, name in found[0] if kind == "hand"], found[2])

    def seen(self, faults):
        """The faults whose verdict is a tuple, each with its switching."""
        verdicts = [(fault, self.verdict(fault)) for fault in faults]
        return [(fault, verdict[0]) for fault, verdict in verdicts if isinstance(verdict, tuple)]

    def shown_by(self, fault, switching):
        shows = slow.rest_shows(self.changed(fault), switching, self.hurry)
        return not shows <= slow.rest_shows(self.board, switching, self.hurry)

    def all_shown(self, seen, switchings):
        return all(any(self.shown_by(fault, switching) for switching in switchings) for fault, _ in seen)

    def suite(self, faults):
        seen = self.seen(faults)
        rows = []
        for fault, switching in seen:
            if not any(self.shown_by(fault, row) for row in rows):
                rows.append(switching)
        at = 0
        while at < len(rows):
            if self.all_shown(seen, rows[:at] + rows[at + 1:]):
                del rows[at]
            else:
                at += 1
        return rows

    def is_right(self, faults, switchings):
        seen = self.seen(faults)
        fewer = [switchings[:at] + switchings[at + 1:] for at in range(len(switchings))]
        return self.all_shown(seen, switchings) and not any(self.all_shown(seen, left) for left in fewer)


def verdict_count(bench, fault):
    """The greatest of what the verdict on the fault counts."""
    own = slow.agree_count(bench.board, bench.board, bench.hurry)
    return max(own, slow.agree_count(bench.board, bench.changed(fault), bench.hurry))


def possible_count(board, switching, hurry):
    """The greatest number of possible states behind some number of the hands of the switching."""
    return max(len(slow.possible(board, switching[:at], hurry)) for at in range(len(switching) + 1))
