import unittest

from leverhouse.boards import Board
from leverhouse.ends import possible_states, rest_shows, rest_states
from leverhouse.errors import TooMany, UnknownName
from leverhouse.plays import switching_of
from leverhouse.races import is_determinate
from leverhouse.search import all_states
from leverhouse.settling import Longest, settles
from tests import naive, slow
from tests.checks import check_defaults, check_limits
from tests.samples import busy_board, odd_board, parts_of, small_board

QUESTIONS = (possible_states, rest_states, rest_shows)
LIT, DARK = (("x",), False), ((), False)

# The relay follows the switch, and the lamp the relay.
PLAIN = small_board("ab", "s", ["rb"], ["xa"], ["pbs", "par"])
# The relay holds itself, if it is given the time to come up.
HASTY = small_board("a", "s", ["ra"], ["xa"], ["pas", "par"])
# Both relays are due; if q is up before r, there is a short.
FUSE = small_board("ab", "s", ["qa", "ra"], ["xa"], ["pas", "pbq", "bm!r"])
# Two relays that are due in the first state, and a switch.
EARLY = small_board("a", "s", ["qa", "ra"], ["xa"], ["pa!s"])
BUZZER = small_board("a", "s", ["ra"], ["xa"], ["pa!r"])
# Of two relays the first one that comes up cuts the other one off; each has its lamp.
RIVALS = small_board("abc", "st", ["qb", "rc"], ["xb", "yc"], ["pas", "ab!r", "ac!q"])


def on(board, names, blown=False):
    """The state of the board in which the movers of this string are on."""
    return (tuple(name in names for name in board.movers), blown)


def many_boards():
    for seed in range(30):
        yield odd_board(seed, 2, 3)
        yield busy_board(seed)


def switchings(board, most):
    """All switchings of at most so many hands, the shorter ones first."""
    level = [[]]
    for _ in range(most + 1):
        yield from level
        level = [switching + [name] for switching in level for name in board.switches]


class TestPossibleStates(unittest.TestCase):
    def test_the_empty_switching(self):
        self.assertEqual(possible_states(PLAIN, []), [on(PLAIN, "")])
        self.assertEqual(possible_states(EARLY, []), [on(EARLY, names) for names in ("", "r", "q", "qr")])
        self.assertEqual(possible_states(BUZZER, []), [on(BUZZER, ""), on(BUZZER, "r")])
        self.assertEqual(possible_states(small_board(), []), [((), False)])

    def test_longer_switchings(self):
        self.assertEqual(possible_states(PLAIN, ["s"]), [on(PLAIN, "s"), on(PLAIN, "sr")])
        self.assertEqual(possible_states(PLAIN, ["s", "s"]), [on(PLAIN, ""), on(PLAIN, "r")])
        self.assertEqual(possible_states(PLAIN, ["s"] * 101), [on(PLAIN, "s"), on(PLAIN, "sr")])

    def test_in_several_hurries(self):
        self.assertEqual(possible_states(HASTY, ["s", "s"]), [on(HASTY, "r")])
        for hurry in (1, 2, 8):
            self.assertEqual(possible_states(HASTY, ["s", "s"], hurry=hurry), [on(HASTY, ""), on(HASTY, "r")])
        self.assertEqual(possible_states(EARLY, ["s"]), [on(EARLY, names) for names in ("s", "sr", "sq", "sqr")])

    def test_a_hand_moves_only_where_few_enough_relays_are_due(self):
        # The relays of the three states are due: two of them, one of them, none of them.
        board = small_board("ab", "st", ["qa", "ra"], ["xa"], ["pas"])
        self.assertEqual(possible_states(board, ["s", "t"]), [on(board, "stqr")])
        found = possible_states(board, ["s", "t"], hurry=1)
        self.assertEqual(found, [on(board, names) for names in ("str", "stq", "stqr")])
        found = possible_states(board, ["s", "t"], hurry=2)
        self.assertEqual(found, [on(board, names) for names in ("st", "str", "stq", "stqr")])

    def test_the_whole_fuse_comes_before_the_blown_one(self):
        expected = [
            on(FUSE, "s"),
            on(FUSE, "s", True),
            on(FUSE, "sr"),
            on(FUSE, "sq", True),
            on(FUSE, "sqr"),
        ]
        self.assertEqual(possible_states(FUSE, ["s"]), expected)

    def test_ascending_mover_by_mover(self):
        board = small_board("a", "s", ["ca", "ba", "aa"], ["xa"], ["pas"])
        names = ["s", "sa", "sb", "sba", "sc", "sca", "scb", "scba"]
        self.assertEqual(possible_states(board, ["s"]), [on(board, part) for part in names])

    def test_a_switching_without_possible_states(self):
        for count in (1, 2, 5):
            self.assertEqual(possible_states(BUZZER, ["s"] * count), [])
        self.assertEqual(possible_states(BUZZER, ["s"], hurry=1), [on(BUZZER, "s"), on(BUZZER, "sr")])
        # The board buzzes only while t is off and s on.
        board = small_board("ab", "st", ["rb"], ["xa"], ["pas", "ab!r"])
        self.assertEqual(possible_states(board, ["t"]), [on(board, "t")])
        self.assertEqual(possible_states(board, ["t", "s"]), [on(board, "st"), on(board, "str")])
        self.assertEqual(possible_states(board, ["t", "s", "t"]), [])
        self.assertEqual(possible_states(board, ["t", "s", "s", "s"]), [])

    def test_on_many_boards(self):
        fuses = 0
        for board in many_boards():
            slow_board = slow.Slow(board)
            for switching in switchings(board, 3):
                for hurry in (0, 1, 2, 8):
                    expected = slow.ascending(slow.possible(slow_board, switching, hurry))
                    self.assertEqual(possible_states(board, switching, hurry=hurry), expected)
                    fuses += len({movers for movers, _ in expected}) < len(expected)
        self.assertGreater(fuses, 20)

    def test_as_plays_are_listed(self):
        for seed in range(30):
            for board in (odd_board(seed, 2, 2, 6), busy_board(seed, 1, 2)):
                for hurry in (0, 1, 8):
                    ends = {}
                    for play, state in naive.plays_by_length(board, hurry, 4):
                        ends.setdefault(tuple(switching_of(play)), set()).add(state)
                    for switching, states in ends.items():
                        found = possible_states(board, list(switching), hurry=hurry)
                        self.assertLessEqual(states, set(found))
                        self.assertEqual(len(set(found)), len(found))
                        self.assertLessEqual(set(found), set(all_states(board, hurry=hurry)))

    def test_the_list_is_a_new_one(self):
        for question in QUESTIONS:
            switching = ["s", "s"]
            kept = question(HASTY, switching, hurry=1)
            again = question(HASTY, switching, hurry=1)
            again.reverse()
            again.append("changed")
            self.assertEqual(question(HASTY, switching, hurry=1), kept)
            self.assertEqual(switching, ["s", "s"])

    def test_boards_do_not_change(self):
        before = parts_of(FUSE)
        for question in QUESTIONS:
            question(FUSE, ["s", "s"], hurry=2)
        self.assertEqual(parts_of(FUSE), before)


class TestAtRest(unittest.TestCase):
    def check(self, board, switching, states, shows, **given):
        self.assertEqual(rest_states(board, switching, **given), states)
        self.assertEqual(rest_shows(board, switching, **given), shows)

    def test_by_hand(self):
        self.check(PLAIN, [], [on(PLAIN, "")], [DARK])
        self.check(PLAIN, ["s"], [on(PLAIN, "sr")], [LIT])
        self.check(PLAIN, ["s", "s"], [on(PLAIN, "")], [DARK])
        self.check(HASTY, ["s", "s"], [on(HASTY, "r")], [LIT])
        self.check(HASTY, ["s", "s"], [on(HASTY, ""), on(HASTY, "r")], [DARK, LIT], hurry=1)
        self.check(EARLY, [], [on(EARLY, "qr")], [LIT])
        self.check(FUSE, ["s"], [on(FUSE, "s", True), on(FUSE, "sqr")], [((), True), LIT])

    def test_the_order_of_shows(self):
        # The state with the blown fuse, in which nothing is on, comes first.
        self.check(RIVALS, ["s"], [on(RIVALS, "sr"), on(RIVALS, "sq")], [(("y",), False), (("x",), False)])
        states = [on(FUSE, "", True), on(FUSE, "")]
        self.check(FUSE, ["s", "s"], states[::-1], [DARK, ((), True)])

    def test_states_with_the_same_show(self):
        # Nothing shows which of the two relays is up.
        board = small_board("abc", "s", ["qb", "rc"], ["xa"], ["pas", "ab!r", "ac!q"])
        self.check(board, ["s"], [on(board, "sr"), on(board, "sq")], [LIT])
        # Of three relays one alone can come up. The lamp shows the first or the last one of them.
        contacts = ["pas", "ad!r", "db!z", "ae!q", "ec!z", "af!q", "fg!r", "phq", "phz"]
        board = small_board("abcdefgh", "s", ["qb", "rc", "zg"], ["xh"], contacts)
        self.check(board, ["s"], [on(board, names) for names in ("sz", "sr", "sq")], [LIT, DARK])

    def test_no_states_at_rest(self):
        self.check(BUZZER, [], [], [])
        self.check(BUZZER, ["s"], [], [])
        self.check(BUZZER, ["s"], [], [], hurry=8)

    def test_on_many_boards(self):
        several = repeated = 0
        for board in many_boards():
            slow_board = slow.Slow(board)
            for switching in switchings(board, 3):
                for hurry in (0, 1, 8):
                    found = slow.ascending(slow.possible(slow_board, switching, hurry))
                    states = [state for state in found if slow_board.rests(state)]
                    shows = []
                    for state in states:
                        if slow_board.show(state) not in shows:
                            shows.append(slow_board.show(state))
                    self.check(board, switching, states, shows, hurry=hurry)
                    several += len(shows) > 1
                    repeated += len(shows) < len(states)
        self.assertGreater(several, 20)
        self.assertGreater(repeated, 20)

    def test_determinate_boards_and_boards_that_settle(self):
        for board in many_boards():
            for hurry in (0, 1):
                settled = isinstance(settles(board, hurry=hurry), Longest)
                determinate = is_determinate(board, hurry=hurry)
                for switching in switchings(board, 3):
                    count = len(rest_shows(board, switching, hurry=hurry))
                    if determinate:
                        self.assertEqual(count, 1)
                    if settled and possible_states(board, switching, hurry=hurry):
                        self.assertGreater(count, 0)

    def test_the_example(self):
        contacts = [("p", "x", "s", "make", "both"), ("p", "x", "r", "make", "both")]
        board = Board(
            nodes=["p", "m", "x"],
            switches=["s"],
            relays=[("r", "x", "m")],
            lamps=[("l", "x", "m")],
            contacts=contacts,
        )
        found = (rest_shows(board, ["s", "s"]), rest_shows(board, ["s", "s"], hurry=1))
        self.assertEqual(found, ([(("l",), False)], [((), False), (("l",), False)]))


class TestErrors(unittest.TestCase):
    def test_names_of_no_switch(self):
        for question in QUESTIONS:
            for switching, name in (
                (["r"], "r"),
                (["x"], "x"),
                (["a"], "a"),
                (["p"], "p"),
                (["nothing"], "nothing"),
                ([""], ""),
                (["s", "s", "x", "r"], "x"),
                (["r", "s", "x"], "r"),
                (["s", "zz", "zz", "y"], "zz"),
            ):
                for limit in (1, 3000):
                    with self.assertRaises(UnknownName) as caught:
                        question(PLAIN, switching, limit=limit)
                    self.assertEqual(caught.exception.name, name)

    def test_a_switch_with_the_name_of_a_lamp_or_a_node(self):
        board = small_board("s", "s", [], ["ss"], ["pss"])
        self.assertEqual(rest_shows(board, ["s"]), [(("s",), False)])

    def test_unknown_names_come_before_too_many(self):
        # The empty switching of this board has more than one possible state.
        for question in QUESTIONS:
            with self.assertRaises(TooMany):
                question(EARLY, [], limit=1)
            with self.assertRaises(UnknownName):
                question(EARLY, ["q"], limit=1)
            with self.assertRaises(UnknownName):
                question(EARLY, ["s", "s", "s", "x"], limit=1)

    def test_a_name_behind_a_switching_without_possible_states(self):
        for question in QUESTIONS:
            with self.assertRaises(UnknownName) as caught:
                question(BUZZER, ["s", "s", "r"])
            self.assertEqual(caught.exception.name, "r")

    def check_limit(self, board, switching, hurry):
        slow_board = slow.Slow(board)
        counts = [len(slow.possible(slow_board, switching[:end], hurry)) for end in range(len(switching) + 1)]
        for question in QUESTIONS:
            check_limits(self, max(counts), lambda limit: question(board, switching, hurry=hurry, limit=limit))
        return counts.index(max(counts))

    def test_too_many_behind_any_number_of_hands(self):
        places = {}
        for board in many_boards():
            for switching in switchings(board, 3):
                for hurry in (0, 1):
                    places[len(switching), self.check_limit(board, switching, hurry)] = True
        for end in range(4):
            self.assertIn((3, end), places)

    def test_too_many_behind_no_hands(self):
        for question in QUESTIONS:
            for switching in ([], ["s"], ["s", "s"]):
                for limit in (1, 3):
                    with self.assertRaises(TooMany) as caught:
                        question(EARLY, switching, limit=limit)
                    self.assertEqual(caught.exception.limit, limit)
                question(EARLY, switching, limit=4)

    def test_too_many_ahead_of_no_possible_states(self):
        for question in QUESTIONS:
            with self.assertRaises(TooMany):
                question(BUZZER, ["s", "s"], limit=1)
            self.assertEqual(question(BUZZER, ["s", "s"], limit=2), [])

    def test_states_behind_different_numbers_of_hands_are_not_added(self):
        for question in QUESTIONS:
            question(PLAIN, ["s"] * 50, limit=2)
        self.assertEqual(possible_states(PLAIN, ["s"] * 50, limit=2), [on(PLAIN, ""), on(PLAIN, "r")])

    def test_what_is_not_given(self):
        check_defaults(self, *QUESTIONS)

    def test_all_relays(self):
        # 256 states are possible behind the one hand; 65536 states would be reached in all.
        names = "abcdefgh"
        board = small_board("n", "stuvwz", [f"{name}n" for name in names], ["xn"], ["pns"])
        self.assertEqual(len(possible_states(board, ["s"], limit=256)), 256)
        self.assertEqual(rest_shows(board, ["s"] * 3, limit=256), [LIT])


if __name__ == "__main__":
    unittest.main()
