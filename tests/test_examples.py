"""The examples of the interface, each with what it gives."""

import unittest

from leverhouse.boards import Board
from leverhouse.certificates import check_settling, settling_certificate
from leverhouse.delays import Delays, timed_run
from leverhouse.errors import InvalidCertificate
from leverhouse.faults import all_faults, fault_verdict
from leverhouse.session import Session
from leverhouse.suites import suite
from leverhouse.tidy import tidy


def lit_board():
    """The board of several examples: a lamp that is live while the switch is on."""
    contacts = [("p", "x", "s", "make", "both")]
    return Board(nodes=["p", "m", "x"], switches=["s"], lamps=[("l", "x", "m")], contacts=contacts)


class TestExamples(unittest.TestCase):
    def test_timed_run(self):
        contact = ("p", "a", "s", "make", "both")
        board = Board(
            nodes=["p", "m", "a", "b"],
            switches=["s"],
            relays=[("r", "a", "m")],
            lamps=[("x", "b", "m")],
            contacts=[contact, ("p", "b", "r", "make", "both")],
        )
        run = timed_run(Delays(board, up=[3], down=[1]), [(2, "s"), (9, "s")], until=20)
        moves = [(2, ("hand", "s")), (5, ("relay", "r")), (9, ("hand", "s")), (10, ("relay", "r"))]
        self.assertEqual(run.moves, moves)
        self.assertEqual(run.shows, [(0, ((), False)), (5, (("x",), False)), (10, ((), False))])
        self.assertEqual(run.rest, 10)

    def test_fault_verdict(self):
        seen = fault_verdict(lit_board(), ("open", 0))
        self.assertEqual((seen.switching, seen.shows), (["s"], ((("l",), False), ((), False))))

    def test_suite(self):
        board = lit_board()
        self.assertEqual(suite(board, all_faults(board)), [["s"], []])

    def test_certificates(self):
        board = lit_board()
        text = "settles 0\nstate 0 whole 0\nstate 1 whole 0"
        self.assertEqual(settling_certificate(board), text)
        self.assertIs(check_settling(board, "settles 0\nstate 0 whole 0"), False)
        with self.assertRaises(InvalidCertificate):
            check_settling(board, "settles 9")

    def test_tidy(self):
        wires = [("p", "x", "s", "make", "both"), ("p", "x", "s", "make", "forward")]
        tidied = tidy(Board(nodes=["p", "m", "x"], lamps=[("l", "x", "m")], switches=["s"], contacts=wires))
        found = (tidied.removed, tidied.board.contacts)
        self.assertEqual(found, ((0,), (("p", "x", "s", "make", "forward"),)))

    def test_session(self):
        text = (
            "board b\nnodes p m x\nswitches s\nlamp l x m\ncontact p x s make both\nend\n"
            "ask q settles 0 b\nanswers\ncut b 1"
        )
        expected = ["ok", "ok", "ok", "q: settles 0", "line 9: unknown number 1"]
        self.assertEqual(Session().run(text), expected)


if __name__ == "__main__":
    unittest.main()
