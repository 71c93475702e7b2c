import unittest

from leverhouse.boards import Board
from leverhouse.current import (
    closed_contacts,
    closes,
    fed,
    feeds,
    is_closed,
    is_short,
    live_lamps,
    live_relays,
)
from leverhouse.errors import UnknownNumber
from tests import naive
from tests.samples import all_positions, busy_board, odd_board, parts_of, sized_board

NODES = ["p", "m", "a", "b", "c"]


def board_of(*contacts, **parts):
    given = {
        "nodes": NODES,
        "switches": ["s", "t"],
        "relays": [("r", "a", "m")],
        "lamps": [("x", "a", "m"), ("y", "m", "b"), ("z", "a", "b")],
        "contacts": list(contacts),
    }
    return Board(**{**given, **parts})


def state_of(on, blown=False):
    """The state in which the movers s, t, r of this string are on."""
    return (tuple(name in on for name in "str"), blown)


class TestContacts(unittest.TestCase):
    def test_closes(self):
        for way in ("both", "forward"):
            self.assertIs(closes(("p", "a", None, "make", way), True), True)
            self.assertIs(closes(("p", "a", None, "make", way), False), True)
            self.assertIs(closes(("p", "a", "s", "make", way), True), True)
            self.assertIs(closes(("p", "a", "s", "make", way), False), False)
            self.assertIs(closes(("p", "a", "s", "break", way), True), False)
            self.assertIs(closes(("p", "a", "s", "break", way), False), True)

    BOARD = board_of(
        ("p", "a", "s", "make", "both"),
        ("p", "b", "s", "break", "forward"),
        ("p", "c", None, "make", "both"),
        ("a", "b", "r", "make", "forward"),
        ("b", "c", "r", "break", "both"),
        ("a", "c", "t", "make", "both"),
    )

    def test_closed_contacts(self):
        for on, numbers in (
            ("", [1, 2, 4]),
            ("s", [0, 2, 4]),
            ("t", [1, 2, 4, 5]),
            ("r", [1, 2, 3]),
            ("st", [0, 2, 4, 5]),
            ("sr", [0, 2, 3]),
            ("tr", [1, 2, 3, 5]),
            ("str", [0, 2, 3, 5]),
        ):
            for blown in (False, True):
                state = state_of(on, blown)
                self.assertEqual(closed_contacts(self.BOARD, state), numbers)
                for number in range(6):
                    self.assertIs(is_closed(self.BOARD, state, number), number in numbers)

    def test_unknown_numbers(self):
        for number in (-1, -6, -7, 6, 7, 100):
            with self.subTest(number=number), self.assertRaises(UnknownNumber) as caught:
                is_closed(self.BOARD, state_of(""), number)
            self.assertEqual(caught.exception.number, number)
        for number in (-1, 0, 1):
            with self.assertRaises(UnknownNumber) as caught:
                is_closed(board_of(), state_of(""), number)
            self.assertEqual(caught.exception.number, number)

    def test_a_board_without_movers(self):
        wire = ("p", "a", None, "make", "both")
        board = board_of(wire, wire, switches=[], relays=[])
        self.assertEqual(closed_contacts(board, ((), False)), [0, 1])
        self.assertEqual(fed(board, ((), False)), ["p", "a"])
        self.assertEqual(live_relays(board, ((), False)), [])


class TestFed(unittest.TestCase):
    def check(self, board, state, fed_nodes, feeding, short=False):
        self.assertEqual(fed(board, state), fed_nodes)
        self.assertEqual(feeds(board, state), feeding)
        self.assertIs(is_short(board, state), short)

    def test_no_contacts(self):
        self.check(board_of(), state_of(""), ["p"], ["m"])

    def test_wires_both_ways(self):
        for one, other in (("p", "a"), ("a", "p")):
            board = board_of((one, other, None, "make", "both"))
            self.check(board, state_of(""), ["p", "a"], ["m"])
        for one, other in (("m", "a"), ("a", "m")):
            board = board_of((one, other, None, "make", "both"))
            self.check(board, state_of(""), ["p"], ["m", "a"])

    def test_forward_wires(self):
        self.check(board_of(("p", "a", None, "make", "forward")), state_of(""), ["p", "a"], ["m"])
        self.check(board_of(("a", "p", None, "make", "forward")), state_of(""), ["p"], ["m"])
        self.check(board_of(("a", "m", None, "make", "forward")), state_of(""), ["p"], ["m", "a"])
        self.check(board_of(("m", "a", None, "make", "forward")), state_of(""), ["p"], ["m"])

    def test_make_and_break(self):
        board = board_of(("p", "a", "s", "make", "both"), ("b", "m", "s", "break", "both"))
        self.check(board, state_of(""), ["p"], ["m", "b"])
        self.check(board, state_of("s"), ["p", "a"], ["m"])
        self.check(board, state_of("tr"), ["p"], ["m", "b"])

    def test_rows_of_contacts(self):
        row = (
            ("b", "a", "s", "make", "both"),
            ("c", "b", "t", "make", "both"),
            ("p", "c", "r", "break", "forward"),
        )
        board = board_of(*row)
        self.check(board, state_of("st"), ["p", "a", "b", "c"], ["m"])
        self.check(board, state_of("t"), ["p", "b", "c"], ["m"])
        self.check(board, state_of("s"), ["p", "c"], ["m"])
        self.check(board, state_of("str"), ["p"], ["m"])

    def test_forward_in_a_row(self):
        board = board_of(
            ("p", "a", None, "make", "both"),
            ("a", "b", None, "make", "forward"),
            ("c", "b", None, "make", "forward"),
            ("c", "m", None, "make", "both"),
        )
        self.check(board, state_of(""), ["p", "a", "b"], ["m", "c"])

    def test_loops(self):
        for way in ("both", "forward"):
            loop = [
                ("a", "b", None, "make", way),
                ("b", "c", None, "make", way),
                ("c", "a", None, "make", way),
            ]
            self.check(board_of(*loop), state_of(""), ["p"], ["m"])
            board = board_of(*loop, ("p", "b", None, "make", way))
            self.check(board, state_of(""), ["p", "a", "b", "c"], ["m"])
            board = board_of(*loop, ("b", "m", None, "make", way))
            self.check(board, state_of(""), ["p"], ["m", "a", "b", "c"])
        back = board_of(("a", "p", None, "make", "both"), ("p", "a", None, "make", "forward"))
        self.check(back, state_of(""), ["p", "a"], ["m"])

    def test_shorts(self):
        board = board_of(("p", "a", None, "make", "both"), ("a", "m", "s", "make", "both"))
        self.check(board, state_of(""), ["p", "a"], ["m"])
        self.check(board, state_of("s"), ["p", "m", "a"], ["p", "m", "a"], short=True)
        forward = board_of(("p", "m", "s", "make", "forward"), ("b", "m", None, "make", "both"))
        self.check(forward, state_of("s"), ["p", "m", "b"], ["p", "m", "b"], short=True)
        backward = board_of(("m", "p", "s", "make", "forward"))
        self.check(backward, state_of("s"), ["p"], ["m"])

    def test_current_goes_on_behind_minus_and_plus(self):
        board = board_of(("p", "m", None, "make", "forward"), ("m", "a", None, "make", "forward"))
        self.check(board, state_of(""), ["p", "m", "a"], ["p", "m"], short=True)
        board = board_of(("p", "m", None, "make", "forward"), ("a", "p", None, "make", "forward"))
        self.check(board, state_of(""), ["p", "m"], ["p", "m", "a"], short=True)

    def test_the_fuse_has_no_effect(self):
        short = board_of(("p", "a", None, "make", "both"), ("a", "m", None, "make", "both"))
        plain = board_of(("p", "a", None, "make", "both"), ("b", "m", None, "make", "both"))
        for blown in (False, True):
            self.check(short, state_of("", blown), ["p", "m", "a"], ["p", "m", "a"], short=True)
            self.check(plain, state_of("", blown), ["p", "a"], ["m", "b"])

    def test_the_order_is_that_of_the_board(self):
        contacts = [
            ("p", "a", None, "make", "both"),
            ("a", "c", None, "make", "forward"),
            ("c", "b", None, "make", "forward"),
        ]
        for nodes in (["p", "m", "c", "b", "a"], ["p", "m", "b", "a", "c"]):
            board = board_of(*contacts, nodes=nodes)
            self.check(board, state_of(""), ["p", *nodes[2:]], ["m"])

    def test_plus_and_minus_are_the_first_two_nodes(self):
        board = Board(
            nodes=["m", "p", "a"],
            switches=["s"],
            lamps=[("x", "a", "p")],
            contacts=[("m", "a", "s", "make", "both")],
        )
        self.check(board, ((True,), False), ["m", "a"], ["p"])
        self.assertEqual(live_lamps(board, ((True,), False)), ["x"])


class TestLive(unittest.TestCase):
    def test_either_order_of_the_nodes(self):
        for ends in (("a", "m"), ("m", "a")):
            board = board_of(
                ("p", "a", "s", "make", "both"), relays=[("r", *ends)], lamps=[("x", *ends)]
            )
            for on, names in (("s", True), ("", False), ("t", False), ("sr", True)):
                self.assertEqual(live_relays(board, state_of(on)), ["r"] if names else [])
                self.assertEqual(live_lamps(board, state_of(on)), ["x"] if names else [])

    def test_between_two_inner_nodes(self):
        board = board_of(("p", "a", None, "make", "both"), ("b", "m", "s", "make", "both"))
        self.assertEqual(live_lamps(board, state_of("")), ["x"])
        self.assertEqual(live_lamps(board, state_of("s")), ["x", "z"])
        turned = board_of(("p", "b", None, "make", "both"), ("a", "m", "s", "make", "both"))
        self.assertEqual(live_lamps(turned, state_of("")), ["y"])
        self.assertEqual(live_lamps(turned, state_of("s")), ["y", "z"])

    def test_fed_from_both_ends_or_from_none(self):
        board = board_of(
            ("p", "a", "s", "make", "both"),
            ("p", "b", "s", "make", "both"),
            ("a", "m", "t", "make", "both"),
            ("b", "m", "t", "make", "both"),
            lamps=[("z", "a", "b")],
        )
        for on in ("", "s", "t"):
            self.assertEqual(live_lamps(board, state_of(on)), [])

    def test_at_plus_itself_and_at_minus_itself(self):
        board = board_of(("a", "m", None, "make", "forward"), lamps=[("x", "p", "a"), ("y", "a", "m")])
        self.assertEqual(live_lamps(board, state_of("")), ["x"])

    def test_current_does_not_go_through_coils_and_lamps(self):
        board = board_of(
            ("p", "a", None, "make", "both"),
            relays=[("r", "a", "b")],
            lamps=[("x", "a", "b"), ("y", "b", "m")],
        )
        self.assertEqual(fed(board, state_of("")), ["p", "a"])
        self.assertEqual(live_lamps(board, state_of("")), [])
        self.assertEqual(live_relays(board, state_of("")), [])

    def test_nothing_is_live_with_a_blown_fuse(self):
        board = board_of(("p", "a", None, "make", "both"), ("p", "b", None, "make", "both"))
        self.assertEqual(live_relays(board, state_of("")), ["r"])
        self.assertEqual(live_lamps(board, state_of("")), ["x", "y"])
        for on in ("", "s", "r", "str"):
            self.assertEqual(live_relays(board, state_of(on, True)), [])
            self.assertEqual(live_lamps(board, state_of(on, True)), [])

    def test_the_order_is_that_of_the_board(self):
        lamps = [("z", "a", "m"), ("b", "m", "a"), ("k", "b", "m"), ("a", "a", "m")]
        relays = [("q", "a", "m"), ("c", "m", "a"), ("j", "b", "m"), ("b", "a", "m")]
        board = board_of(("p", "a", None, "make", "both"), switches=[], relays=relays, lamps=lamps)
        state = ((False,) * 4, False)
        self.assertEqual(live_lamps(board, state), ["z", "b", "a"])
        self.assertEqual(live_relays(board, state), ["q", "c", "b"])

    def test_the_example(self):
        board = Board(
            nodes=["p", "m", "a"],
            switches=["s"],
            lamps=[("lamp", "m", "a")],
            contacts=[("p", "a", "s", "make", "both")],
        )
        self.assertEqual(fed(board, ((True,), False)), ["p", "a"])
        self.assertEqual(live_lamps(board, ((True,), False)), ["lamp"])


class TestManyBoards(unittest.TestCase):
    def boards(self):
        for seed in range(50):
            yield odd_board(seed)
            yield busy_board(seed)

    def test_as_by_the_points(self):
        shorts = 0
        for board in self.boards():
            for movers in all_positions(board):
                state = (movers, False)
                self.assertEqual(closed_contacts(board, state), naive.closed(board, movers))
                self.assertEqual(fed(board, state), naive.fed(board, movers))
                self.assertEqual(feeds(board, state), naive.feeds(board, movers))
                self.assertIs(is_short(board, state), naive.short(board, movers))
                shorts += naive.short(board, movers)
            for state in naive.states(board):
                self.assertEqual(live_lamps(board, state), naive.live(board, state, board.lamps))
                self.assertEqual(live_relays(board, state), naive.live(board, state, board.relays))
        self.assertGreater(shorts, 50)

    def test_a_short_is_seen_from_both_ends(self):
        for board in self.boards():
            for movers in all_positions(board):
                state = (movers, False)
                self.assertIs("p" in feeds(board, state), is_short(board, state))

    def test_the_greatest_board(self):
        board = sized_board(16, 6, 8, 8, 40)
        for state in (((False,) * 14, False), ((True,) * 14, False), ((True, False) * 7, True)):
            self.assertEqual(fed(board, state), naive.fed(board, state[0]))
            self.assertEqual(feeds(board, state), naive.feeds(board, state[0]))
            self.assertEqual(live_lamps(board, state), naive.live(board, state, board.lamps))

    def test_new_lists_and_no_changes(self):
        for board in (odd_board(3), busy_board(5)):
            before = parts_of(board)
            state = (all_positions(board)[-1], False)
            for question in (closed_contacts, fed, feeds, live_relays, live_lamps):
                first = question(board, state)
                self.assertIs(type(first), list)
                kept = list(first)
                first.append("changed")
                self.assertEqual(question(board, state), kept)
            self.assertEqual(parts_of(board), before)


if __name__ == "__main__":
    unittest.main()
