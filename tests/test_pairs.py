import inspect
import unittest

from leverhouse.boards import Board
from leverhouse.errors import DifferentFaces, TooMany
from leverhouse.pairs import all_pairs, first_pair, joint_moves, joint_step, split_play
from tests import naive, slow
from tests.checks import check_defaults, check_limits
from tests.samples import board_like, busy_board, odd_board, parts_of, small_board, twin_of

HURRIES = (0, 1, 2, 8)
S, T = ("hand", "s"), ("hand", "t")

# With s on, q and r of the one board are due; with t on, r of the other one is.
ONE = small_board("ab", "st", ["qa", "rb"], ["xa"], ["pas", "pbs"])
OTHER = small_board("a", "st", ["ra"], ["xa"], ["pat"])
# The relay follows the switch.
PLAIN = small_board("a", "s", ["ra"], ["xa"], ["pas"])
# Another board of this face, in which another name has the relay and s brings a short.
SHORT = small_board("a", "s", ["qa"], ["xa"], ["pas", "ams"])


def on(board, names, blown=False):
    """The state of the board in which the movers of this string are on."""
    return (tuple(name in names for name in board.movers), blown)


def pair_of(first, second):
    return (on(ONE, first), on(OTHER, second))


def couples():
    """Boards of the same face, most of them different ones."""
    for seed in range(25):
        for board in (odd_board(seed, 2, 3), busy_board(seed, 2, 2)):
            yield board, twin_of(board, seed)
            yield twin_of(board, seed + 100), board


class TestFirstPair(unittest.TestCase):
    def test_by_hand(self):
        self.assertEqual(first_pair(ONE, OTHER), pair_of("", ""))
        self.assertEqual(first_pair(PLAIN, SHORT), (((False, False), False), ((False, False), False)))

    def test_a_short_on_one_of_the_boards(self):
        shorted = board_like(OTHER, contacts=[("p", "m", "t", "break", "both")])
        self.assertEqual(first_pair(ONE, shorted), (on(ONE, ""), on(OTHER, "", True)))
        self.assertEqual(first_pair(shorted, ONE), (on(OTHER, "", True), on(ONE, "")))

    def test_on_many_boards(self):
        for one, other in couples():
            expected = (naive.first_state(one), naive.first_state(other))
            self.assertEqual(first_pair(one, other), expected)


class TestJointMoves(unittest.TestCase):
    def test_hands_then_relays_of_the_one_then_of_the_other_board(self):
        both = [("first", "q"), ("first", "r"), ("second", "r")]
        self.assertEqual(joint_moves(ONE, OTHER, pair_of("st", "st")), both)
        self.assertEqual(joint_moves(ONE, OTHER, pair_of("st", "st"), hurry=2), [S, T, *both])
        self.assertEqual(joint_moves(ONE, OTHER, pair_of("", "")), [S, T])

    def test_the_boards_the_other_way_round(self):
        pair = (on(OTHER, "st"), on(ONE, "st"))
        expected = [("first", "r"), ("second", "q"), ("second", "r")]
        self.assertEqual(joint_moves(OTHER, ONE, pair), expected)
        self.assertEqual(joint_moves(OTHER, ONE, pair, hurry=8), [S, T, *expected])

    def test_too_many_relays_are_due_on_one_board_alone(self):
        for first, second in (("s", "s"), ("t", "t")):
            pair = pair_of(first, second)
            relays = [("first", "q"), ("first", "r")] if first == "s" else [("second", "r")]
            count = len(relays)
            for hurry in range(9):
                hands = [S, T] if count <= hurry else []
                self.assertEqual(joint_moves(ONE, OTHER, pair, hurry=hurry), hands + relays)
            turned = [("second" if kind == "first" else "first", name) for kind, name in relays]
            for hurry in range(9):
                hands = [S, T] if count <= hurry else []
                found = joint_moves(OTHER, ONE, pair[::-1], hurry=hurry)
                self.assertEqual(found, hands + turned)

    def test_each_board_is_taken_alone(self):
        # One relay is due on each board: together they are two, and yet the hurry 1 is enough.
        pair = pair_of("sqt", "st")
        relays = [("first", "r"), ("second", "r")]
        self.assertEqual(joint_moves(ONE, OTHER, pair), relays)
        self.assertEqual(joint_moves(ONE, OTHER, pair, hurry=1), [S, T, *relays])

    def test_relays_of_the_same_name(self):
        for first, second, expected in (
            ("s", "s", [("first", "r"), ("second", "r")]),
            ("sr", "s", [("second", "r")]),
            ("s", "sr", [("first", "r")]),
            ("sr", "sr", [S]),
        ):
            pair = (on(PLAIN, first), on(PLAIN, second))
            self.assertEqual(joint_moves(PLAIN, PLAIN, pair), expected)

    def test_the_order_is_that_of_the_numbers(self):
        one = small_board("a", "zb", ["ya", "ca"], ["xa"], ["pa-"])
        other = small_board("a", "zb", ["wa", "ya", "da"], ["xa"], ["pa-"])
        expected = [("hand", "z"), ("hand", "b"), ("first", "y"), ("first", "c")]
        expected += [("second", "w"), ("second", "y"), ("second", "d")]
        pair = (((False,) * 4, False), ((False,) * 5, False))
        self.assertEqual(joint_moves(one, other, pair, hurry=3), expected)
        self.assertEqual(joint_moves(one, other, pair, hurry=2), expected[2:])

    def test_blown_fuses(self):
        pair = (on(ONE, "qr", True), on(OTHER, "r"))
        relays = [("first", "q"), ("first", "r"), ("second", "r")]
        self.assertEqual(joint_moves(ONE, OTHER, pair), relays)
        pair = (on(ONE, "s", True), on(OTHER, "s"))
        self.assertEqual(joint_moves(ONE, OTHER, pair), [S, T])

    def test_no_moves(self):
        bare = small_board()
        self.assertEqual(joint_moves(bare, bare, first_pair(bare, bare), hurry=8), [])
        self.assertEqual(all_pairs(bare, bare, limit=1), [first_pair(bare, bare)])

    def test_on_many_boards(self):
        for one, other in couples():
            slow_one, slow_other = slow.Slow(one), slow.Slow(other)
            states = list(naive.states(other))
            for number, first in enumerate(naive.states(one)):
                pair = (first, states[number * 7 % len(states)])
                for hurry in HURRIES:
                    expected = slow.joint_moves(slow_one, slow_other, pair, hurry)
                    self.assertEqual(joint_moves(one, other, pair, hurry=hurry), expected)

    def test_each_list_is_a_new_one(self):
        joint_moves(ONE, OTHER, pair_of("", "")).clear()
        self.assertEqual(joint_moves(ONE, OTHER, pair_of("", "")), [S, T])


class TestJointStep(unittest.TestCase):
    def test_a_hand_moves_on_both_boards(self):
        self.assertEqual(joint_step(ONE, OTHER, pair_of("", ""), S), pair_of("s", "s"))
        self.assertEqual(joint_step(ONE, OTHER, pair_of("stq", "str"), T), pair_of("sq", "sr"))

    def test_a_relay_moves_on_its_board_alone(self):
        pair = pair_of("st", "st")
        self.assertEqual(joint_step(ONE, OTHER, pair, ("first", "r")), pair_of("str", "st"))
        self.assertEqual(joint_step(ONE, OTHER, pair, ("first", "q")), pair_of("stq", "st"))
        self.assertEqual(joint_step(ONE, OTHER, pair, ("second", "r")), pair_of("st", "str"))
        pair = pair_of("r", "r")
        self.assertEqual(joint_step(ONE, OTHER, pair, ("first", "r")), pair_of("", "r"))
        self.assertEqual(joint_step(ONE, OTHER, pair, ("second", "r")), pair_of("r", ""))

    def test_the_fuse_of_one_board_blows(self):
        pair = first_pair(PLAIN, SHORT)
        self.assertEqual(joint_step(PLAIN, SHORT, pair, S), (on(PLAIN, "s"), on(SHORT, "s", True)))
        pair = first_pair(SHORT, PLAIN)
        self.assertEqual(joint_step(SHORT, PLAIN, pair, S), (on(SHORT, "s", True), on(PLAIN, "s")))
        pair = (on(PLAIN, "s"), on(SHORT, "s", True))
        self.assertEqual(joint_step(PLAIN, SHORT, pair, S), (on(PLAIN, ""), on(SHORT, "", True)))

    def test_on_many_boards(self):
        for one, other in couples():
            slow_one, slow_other = slow.Slow(one), slow.Slow(other)
            for pair in all_pairs(one, other, hurry=1)[:30]:
                for move in joint_moves(one, other, pair, hurry=1):
                    expected = slow.joint_step(slow_one, slow_other, pair, move)
                    self.assertEqual(joint_step(one, other, pair, move), expected)


class TestSplitPlay(unittest.TestCase):
    def test_each_kind(self):
        self.assertEqual(split_play([("hand", "s")]), ([S], [S]))
        self.assertEqual(split_play([("first", "r")]), ([("relay", "r")], []))
        self.assertEqual(split_play([("second", "r")]), ([], [("relay", "r")]))

    def test_the_empty_play(self):
        self.assertEqual(split_play([]), ([], []))

    def test_a_long_play(self):
        play = [("second", "r"), ("first", "r"), S, ("first", "q"), T, T, ("second", "q"), ("first", "a")]
        first = [("relay", "r"), S, ("relay", "q"), T, T, ("relay", "a")]
        second = [("relay", "r"), S, T, T, ("relay", "q")]
        self.assertEqual(split_play(play), (first, second))

    def test_kinds_of_values(self):
        found = split_play([S, ("first", "r")])
        self.assertIsInstance(found, tuple)
        for play in found:
            self.assertIsInstance(play, list)
            for move in play:
                self.assertIsInstance(move, tuple)

    def test_the_example(self):
        found = split_play([("hand", "s"), ("second", "r"), ("first", "q")])
        self.assertEqual(found, ([("hand", "s"), ("relay", "q")], [("hand", "s"), ("relay", "r")]))

    def test_the_play_stays_and_the_lists_are_new_ones(self):
        play = [S, ("first", "r")]
        first, second = split_play(play)
        first.append("changed")
        second.clear()
        self.assertEqual(play, [S, ("first", "r")])
        self.assertEqual(split_play(play), ([S, ("relay", "r")], [S]))


class TestAllPairs(unittest.TestCase):
    def test_by_hand(self):
        states = {names: on(PLAIN, names) for names in ("", "s", "r", "sr")}
        # Two joint plays lead to the pair in which both relays are up, and two to that behind it.
        expected = [("", ""), ("s", "s"), ("sr", "s"), ("s", "sr"), ("sr", "sr"), ("r", "r"), ("", "r"), ("r", "")]
        self.assertEqual(all_pairs(PLAIN, PLAIN), [(states[one], states[other]) for one, other in expected])

    def test_by_hand_in_a_hurry(self):
        pairs = all_pairs(PLAIN, PLAIN, hurry=1)
        self.assertEqual(len(pairs), 8)
        # Here the hand of the second move comes before the relays.
        self.assertEqual(pairs[:4], [
            (on(PLAIN, ""), on(PLAIN, "")),
            (on(PLAIN, "s"), on(PLAIN, "s")),
            (on(PLAIN, "sr"), on(PLAIN, "s")),
            (on(PLAIN, "s"), on(PLAIN, "sr")),
        ])
        self.assertEqual(set(pairs), set(all_pairs(PLAIN, PLAIN)))

    def test_two_different_boards(self):
        expected = [
            (on(PLAIN, ""), on(SHORT, "")),
            (on(PLAIN, "s"), on(SHORT, "s", True)),
            (on(PLAIN, "sr"), on(SHORT, "s", True)),
            (on(PLAIN, "r"), on(SHORT, "", True)),
            (on(PLAIN, ""), on(SHORT, "", True)),
        ]
        self.assertEqual(all_pairs(PLAIN, SHORT), expected)

    def test_a_board_that_never_rests_holds_the_hands_of_both(self):
        buzzer = small_board("a", "s", ["ra"], ["xa"], ["pa!r"])
        expected = [(on(PLAIN, ""), on(buzzer, "")), (on(PLAIN, ""), on(buzzer, "r"))]
        self.assertEqual(all_pairs(PLAIN, buzzer), expected)
        self.assertEqual(all_pairs(buzzer, PLAIN), [pair[::-1] for pair in expected])
        self.assertEqual(len(all_pairs(PLAIN, buzzer, hurry=1)), 8)

    def test_on_many_boards(self):
        several = 0
        for one, other in couples():
            slow_one, slow_other = slow.Slow(one), slow.Slow(other)
            start = (slow_one.start, slow_other.start)
            for hurry in HURRIES:
                expected = list(slow.reached_pairs(slow_one, slow_other, [start], hurry))
                self.assertEqual(all_pairs(one, other, hurry=hurry), expected)
                several += len(expected) > 20
        self.assertGreater(several, 50)

    def test_a_joint_play_is_a_play_of_each_board(self):
        for one, other in list(couples())[:30]:
            slow_one, slow_other = slow.Slow(one), slow.Slow(other)
            firsts = slow_one.reached([slow_one.start], 1)
            seconds = slow_other.reached([slow_other.start], 1)
            for first, second in all_pairs(one, other, hurry=1):
                self.assertIn(first, firsts)
                self.assertIn(second, seconds)
                self.assertEqual(first[0][:len(one.switches)], second[0][:len(one.switches)])

    def test_different_faces_come_before_too_many(self):
        for other in (
            small_board("a", "t", ["ra"], ["xa"], ["pat"]),
            small_board("a", "", ["ra"], ["xa"]),
            small_board("a", "s", ["ra"], ["ya"], ["pas"]),
            small_board("a", "s", ["ra"], ["xa", "ya"], ["pas"]),
        ):
            for limit in (1, 3000):
                with self.assertRaises(DifferentFaces):
                    all_pairs(PLAIN, other, limit=limit)
                with self.assertRaises(DifferentFaces):
                    all_pairs(other, PLAIN, limit=limit)

    def test_the_other_functions_do_not_look_at_the_faces(self):
        other = small_board("a", "s", ["ra"], ["ya"], ["pas"])
        pair = first_pair(PLAIN, other)
        self.assertEqual(pair, (((False, False), False), ((False, False), False)))
        self.assertEqual(joint_moves(PLAIN, other, pair), [S])
        self.assertEqual(joint_step(PLAIN, other, pair, S), (((True, False), False), ((True, False), False)))

    def test_the_limit(self):
        for one, other in [(PLAIN, PLAIN), (PLAIN, SHORT), (ONE, OTHER), *list(couples())[:20]]:
            for hurry in (0, 1, 8):
                count = len(all_pairs(one, other, hurry=hurry))
                check_limits(self, count, lambda limit: all_pairs(one, other, hurry=hurry, limit=limit))

    def test_only_pairs_are_counted(self):
        # The board alone reaches more states than there are pairs.
        switches = [f"s{k}" for k in range(6)]
        board = Board(nodes=["p", "m", "a"], switches=switches, lamps=[("x", "a", "m")])
        contact = ("p", "a", "r", "break", "both")
        buzzer = board_like(board, relays=[("r", "a", "m")], contacts=[contact])
        self.assertEqual(len(all_pairs(board, buzzer, limit=2)), 2)

    def test_the_limit_that_is_not_given(self):
        check_defaults(self, all_pairs)
        self.assertEqual(inspect.signature(joint_moves).parameters["hurry"].default, 0)
        nodes = ["p", "m"] + [f"n{k}" for k in range(6)]
        board = Board(
            nodes=nodes,
            switches=[f"s{k}" for k in range(6)],
            relays=[(f"r{k}", f"n{k}", "m") for k in range(3)],
            lamps=[("x", "n0", "m")],
            contacts=[("p", f"n{k}", f"s{k}", "make", "both") for k in range(6)],
        )
        with self.assertRaises(TooMany) as caught:
            all_pairs(board, board, hurry=8)
        self.assertEqual(caught.exception.limit, 3000)
        self.assertEqual(len(all_pairs(board, board, hurry=8, limit=4096)), 4096)

    def test_each_list_is_a_new_one_and_boards_do_not_change(self):
        before = parts_of(ONE), parts_of(OTHER)
        pairs = all_pairs(ONE, OTHER, hurry=2)
        all_pairs(ONE, OTHER, hurry=2).clear()
        self.assertEqual(all_pairs(ONE, OTHER, hurry=2), pairs)
        self.assertEqual((parts_of(ONE), parts_of(OTHER)), before)


if __name__ == "__main__":
    unittest.main()
