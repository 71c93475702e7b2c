"""Workbenches for the tests, and how their errors and counts are checked."""

import unittest
from contextlib import contextmanager

from leverhouse.bench import Workbench
from leverhouse.errors import NameInUse, UnknownName, UnknownNumber
from tests.samples import small_board, small_contact

LAMP = small_board("a", "s", [], ["xa"], ["pas"])
DARK = small_board("a", "s", [], ["xa"], [])
# The lamp shows the relay.
FOLLOWED = small_board("ab", "s", ["ra"], ["xb"], ["pas", "pbr"])
# The relay holds itself, if it is given the time to come up.
HASTY = small_board("a", "s", ["ra"], ["xa"], ["pas", "par"])
# As HASTY, but its relay has another name.
RENAMED = small_board("a", "s", ["qa"], ["xa"], ["pas", "paq"])
BUZZER = small_board("a", "s", ["ra"], ["xa"], ["pa!r"])
# The relay buzzes with the switch on.
LATE = small_board("ab", "s", ["rb"], ["xa"], ["pas", "ab!r"])
# A relay that holds itself, without a lamp; and one that nothing brings up, but once it is up, the relay q
# buzzes with the switch off.
HOLDING = small_board("ab", "s", ["ra"], ["xb"], ["pas", "par"])
TRAP = small_board("abcde", "s", ["ra", "qd"], ["xb"], ["par", "pcr", "ce!s", "ed!q"])
TWO_SWITCHES = small_board("a", "st", [], ["xa"], ["pas"])
NO_BOARD = ("a", "a", "s", "make", "both")
WIRE = small_contact("pa-")


def wide_board(switches, relays):
    """A board each of whose relays follows a switch, so that in a great hurry all of them move freely."""
    nodes, hands = "abcdef", "uvwxyz"[:switches]
    contacts = [f"p{nodes[k]}{hands[k % switches]}" for k in range(relays)]
    return small_board(nodes, hands, [f"{k}{nodes[k]}" for k in range(relays)], ["xa"], contacts)


def filled_bench():
    """A workbench with boards and questions, some of which have the same names."""
    bench = Workbench()
    for name, board in (("lamp", LAMP), ("dark", DARK), ("b", FOLLOWED), ("buzzer", BUZZER)):
        bench.set_board(name, board)
    bench.ask("b", word="settles", boards=["b"])
    bench.ask("same", word="agrees", boards=["lamp", "b"], hurry=1)
    return bench


def changes_of_all_kinds():
    """Changes that succeed one after another on the workbench above, and alone; none is like another."""
    return [
        ("set_board", "new", HASTY),
        ("set_board", "lamp", LAMP),
        ("replace_contact", "b", 1, ("p", "b", "s", "break", "both")),
        ("insert_contact", "dark", 0, small_contact("pa!s>")),
        ("remove_contact", "lamp", 0),
        ("remove_board", "buzzer"),
        ("ask", "lamp", "changes", ["lamp", "dark"], 8),
        ("ask", "same", "agrees", ["lamp", "b"], 1),
        ("drop", "b"),
    ]


def do(bench, parts):
    """Makes the change by the method of its name."""
    kind, *rest = parts
    if kind == "ask":
        name, word, boards, hurry = rest
        return bench.ask(name, word=word, boards=boards, hurry=hurry)
    return getattr(bench, kind)(*rest)


def told_error(error):
    """The class of the error and what it tells."""
    if isinstance(error, (UnknownName, NameInUse)):
        return (type(error), error.name)
    if isinstance(error, UnknownNumber):
        return (type(error), error.number)
    return (type(error),)


class BenchTest(unittest.TestCase):
    def check_counts(self, bench, decided, kept):
        self.assertEqual((bench.decided, bench.kept), (decided, kept))

    @contextmanager
    def fails(self, *expected):
        """What is done in it has to raise this error, which tells this."""
        with self.assertRaises(expected[0]) as caught:
            yield
        self.assertEqual(told_error(caught.exception), expected)
