import unittest

from leverhouse.delays import (
    Delays,
    TimedRun,
    first_difference,
    lit_time,
    pulses,
    shown_at,
    timed_run,
)
from leverhouse.errors import InvalidPlay, InvalidTiming
from leverhouse.plays import run as run_play
from tests import timed
from tests.samples import Dice, busy_board, deep_board, odd_board, parts_of, small_board

LIT, DARK = (("x",), False), ((), False)
BLOWN = ((), True)

# The relay follows the switch, and the lamp the relay.
PLAIN = small_board("ab", "s", ["ra"], ["xb"], ["pas", "pbr"])
# The lamp hangs on the relay's contact that breaks, behind the switch.
SHORTLIT = small_board("ab", "s", ["ra"], ["xb"], ["pas", "ab!r"])
# The relay goes up and down as long as the switch is off.
BUZZER = small_board("a", "s", ["ra"], ["xa"], ["pa!r"])
STOPPED = small_board("ab", "s", ["ra"], ["xa"], ["ba!r", "pb!s"])
# Each of three relays follows the switch.
THREE = small_board("a", "s", ["qa", "ra", "ta"], ["xa"], ["pas"])
# The relay `l` follows `e`, and `e` the switch; the first board has `e` in front of `l`.
EARLY_FIRST = small_board("abc", "s", ["ea", "lb"], ["xc"], ["pas", "pbe", "pcl"])
LATE_FIRST = small_board("abc", "s", ["lb", "ea"], ["xc"], ["pas", "pbe", "pcl"])
# The relay blows the fuse when it comes up, and is due again behind it.
FUSE = small_board("ab", "s", ["ra"], ["xa"], ["pas", "pmr"])
BARE = small_board("a", "st", [], ["xa"], ["pas"])


def made(board, up, down, events=(), until=20):
    return timed_run(Delays(board, up=up, down=down), list(events), until=until)


def hand(instant, name="s"):
    return (instant, ("hand", name))


def relay(instant, name="r"):
    return (instant, ("relay", name))


def shows_run(until, *shows):
    """A TimedRun with these shows alone."""
    return TimedRun(until, [], list(shows), ((), False), 0)


class TestDelays(unittest.TestCase):
    def test_fields(self):
        delays = Delays(THREE, up=[1, 2, 3], down=[1000, 5, 6])
        self.assertIs(delays.board, THREE)
        self.assertEqual((delays.up, delays.down), ((1, 2, 3), (1000, 5, 6)))
        self.assertIsInstance(delays.up, tuple)
        self.assertIsInstance(delays.down, tuple)

    def test_the_least_and_the_greatest(self):
        for up in (1, 1000):
            for down in (1, 1000):
                delays = Delays(PLAIN, up=[up], down=[down])
                self.assertEqual((delays.up, delays.down), ((up,), (down,)))

    def test_a_board_without_relays(self):
        delays = Delays(BARE, up=[], down=[])
        self.assertEqual((delays.up, delays.down), ((), ()))

    def check_invalid(self, number, up, down):
        with self.assertRaises(InvalidTiming) as caught:
            Delays(THREE, up=up, down=down)
        self.assertEqual(caught.exception.number, number)

    def test_too_small_and_too_great(self):
        for wrong in (0, -1, -1000, 1001, 5000):
            for number in range(3):
                lists = [[1, 500, 1000], [1000, 500, 1]]
                for which in range(2):
                    given = [list(row) for row in lists]
                    given[which][number] = wrong
                    self.check_invalid(number, *given)

    def test_the_first_wrong_relay(self):
        self.check_invalid(1, [1, 1, 0], [1, 1001, 1])
        self.check_invalid(1, [1, 0, 1], [1, 1, 1001])
        self.check_invalid(0, [1, 0, 1], [0, 1, 1])
        self.check_invalid(0, [0, 0, 0], [0, 0, 0])
        self.check_invalid(2, [1, 1, 0], [1, 1, 1001])

    def test_the_delay_of_the_next_move(self):
        board = small_board("a", "st", ["qa", "ra"], ["xa"], ["pas"])
        delays = Delays(board, up=[1, 2], down=[3, 4])
        for s in (False, True):
            for q in (False, True):
                for r in (False, True):
                    state = ((s, not s, q, r), False)
                    self.assertEqual(delays.delay(state, 0), 3 if q else 1)
                    self.assertEqual(delays.delay(state, 1), 4 if r else 2)
        self.assertEqual(delays.delay(((False, False, True, False), True), 0), 3)

    def test_the_delay_of_a_board_without_switches(self):
        delays = Delays(small_board("a", "", ["ra"], ["xa"]), up=[7], down=[9])
        self.assertEqual(delays.delay(((False,), False), 0), 7)
        self.assertEqual(delays.delay(((True,), False), 0), 9)

    def test_lists_may_change_later(self):
        up, down = [3], [1]
        delays = Delays(PLAIN, up=up, down=down)
        up[0] = 0
        down.append(7)
        self.assertEqual((delays.up, delays.down), ((3,), (1,)))
        found = timed_run(delays, [(0, "s")], until=9)
        self.assertEqual(found.moves, [hand(0), relay(3)])

    def test_lists_stay_as_they_are(self):
        up, down = [1, 2, 3], [4, 5, 6]
        Delays(THREE, up=up, down=down)
        self.assertEqual((up, down), ([1, 2, 3], [4, 5, 6]))


class TestTimedRunClass(unittest.TestCase):
    def test_fields(self):
        moves, shows = [hand(1), relay(2)], [(0, DARK), (2, LIT)]
        found = TimedRun(5, moves, shows, ((True, True), False), 2)
        self.assertEqual((found.until, found.moves, found.shows), (5, moves, shows))
        self.assertEqual((found.state, found.rest), (((True, True), False), 2))
        found = TimedRun(until=1, moves=[], shows=[(0, DARK)], state=((), False), rest=None)
        self.assertEqual((found.until, found.moves, found.shows), (1, [], [(0, DARK)]))
        self.assertEqual((found.state, found.rest), (((), False), None))

    def test_the_lists_are_copies(self):
        moves, shows = [hand(1)], [(0, DARK)]
        found = TimedRun(5, moves, shows, ((True, True), False), 2)
        moves.append(relay(3))
        shows.clear()
        self.assertEqual((found.moves, found.shows), ([hand(1)], [(0, DARK)]))

    def test_plain(self):
        moves = [hand(1), relay(2), hand(2, "t")]
        found = TimedRun(5, moves, [(0, DARK)], ((), False), 0)
        self.assertEqual(found.plain(), [("hand", "s"), ("relay", "r"), ("hand", "t")])
        self.assertEqual(TimedRun(5, [], [(0, DARK)], ((), False), 0).plain(), [])
        found.plain().append(("hand", "s"))
        self.assertEqual(len(found.plain()), 3)
        self.assertEqual(found.moves, moves)


class TestEvents(unittest.TestCase):
    def check_invalid(self, number, events, until=20, board=PLAIN):
        with self.assertRaises(InvalidPlay) as caught:
            made(board, [1] * len(board.relays), [1] * len(board.relays), events, until)
        self.assertEqual(caught.exception.number, number)

    def test_wrong_instants(self):
        self.check_invalid(0, [(-1, "s")])
        self.check_invalid(0, [(-5, "s"), (0, "s")])
        self.check_invalid(1, [(3, "s"), (2, "s")])
        self.check_invalid(1, [(1, "s"), (0, "s")])
        self.check_invalid(1, [(0, "s"), (-1, "s")])
        self.check_invalid(3, [(3, "s"), (3, "s"), (7, "s"), (6, "s"), (5, "s")])

    def test_wrong_names(self):
        for name in ("r", "x", "a", "p", "q", "", "ss"):
            self.check_invalid(0, [(2, name)])
            self.check_invalid(1, [(2, "s"), (2, name), (1, "s")])

    def test_the_first_wrong_one(self):
        self.check_invalid(1, [(2, "s"), (1, "s"), (1, "r")])
        self.check_invalid(1, [(2, "s"), (2, "r"), (1, "s")])

    def test_wrong_ones_behind_the_end(self):
        self.check_invalid(1, [(2, "s"), (30, "r")])
        self.check_invalid(2, [(2, "s"), (30, "s"), (29, "s")])
        self.check_invalid(0, [(1, "x")], until=0)

    def test_a_board_without_switches(self):
        self.check_invalid(0, [(0, "s")], board=small_board("a", "", ["ra"], ["xa"]))

    def test_no_events(self):
        found = made(PLAIN, [1], [1], [], 7)
        self.assertEqual((found.moves, found.shows), ([], [(0, DARK)]))
        self.assertEqual((found.state, found.rest, found.until), (((False, False), False), 0, 7))

    def test_several_at_one_instant(self):
        board = small_board("ab", "st", ["rb"], ["xb"], ["pas", "abt"])
        found = made(board, [2], [1], [(3, "t"), (3, "s"), (3, "t"), (3, "t")], 9)
        self.assertEqual(found.moves, [hand(3, "t"), hand(3), hand(3, "t"), hand(3, "t"), relay(5)])
        self.assertEqual(found.shows, [(0, DARK), (3, LIT)])

    def test_those_behind_the_end_are_not_made(self):
        found = made(PLAIN, [1], [1], [(1, "s"), (5, "s"), (6, "s")], 5)
        self.assertEqual(found.moves, [hand(1), relay(2), hand(5)])
        found = made(PLAIN, [1], [1], [(6, "s")], 5)
        self.assertEqual(found.moves, [])

    def test_events_stay_as_they_are(self):
        events = [(1, "s"), (5, "s"), (60, "s")]
        made(PLAIN, [1], [1], events, 9)
        self.assertEqual(events, [(1, "s"), (5, "s"), (60, "s")])


class TestTimedRun(unittest.TestCase):
    def test_the_end_at_the_instant_0(self):
        found = made(PLAIN, [1], [1], [(0, "s"), (1, "s")], 0)
        self.assertEqual((found.moves, found.shows), ([hand(0)], [(0, DARK)]))
        self.assertEqual((found.state, found.rest, found.until), (((True, False), False), None, 0))
        found = made(PLAIN, [1], [1], [], 0)
        self.assertEqual((found.moves, found.shows, found.rest), ([], [(0, DARK)], 0))

    def test_fields(self):
        found = made(PLAIN, [3], [1], [(2, "s"), (9, "s")], 20)
        self.assertIsInstance(found, TimedRun)
        self.assertEqual(found.moves, [hand(2), relay(5), hand(9), relay(10)])
        self.assertEqual(found.shows, [(0, DARK), (5, LIT), (10, DARK)])
        self.assertEqual((found.state, found.rest, found.until), (((False, False), False), 10, 20))

    def test_up_and_down_have_their_own_delays(self):
        found = made(PLAIN, [1000], [1], [(0, "s")], 1000)
        self.assertEqual(found.moves, [hand(0), relay(1000)])
        self.assertEqual(made(PLAIN, [1000], [1], [(0, "s")], 999).moves, [hand(0)])
        found = made(PLAIN, [1], [900], [(0, "s"), (2, "s")], 1000)
        self.assertEqual(found.moves, [hand(0), relay(1), hand(2), relay(902)])

    def test_hands_move_though_relays_are_due(self):
        board = small_board("ab", "st", ["ra"], ["xb"], ["pas", "pbt"])
        found = made(board, [9], [1], [(0, "s"), (1, "t"), (2, "t")], 5)
        self.assertEqual(found.moves, [hand(0), hand(1, "t"), hand(2, "t")])
        self.assertEqual(found.shows, [(0, DARK), (1, LIT), (2, DARK)])
        self.assertIsNone(found.rest)
        # Eight relays are due, and hands move.
        board = small_board("a", "s", [f"{name}a" for name in "bcdefghi"], ["xa"], ["pas"])
        found = made(board, [9] * 8, [1] * 8, [(0, "s"), (1, "s"), (2, "s")], 5)
        self.assertEqual(found.moves, [hand(0), hand(1), hand(2)])

    def test_hands_move_before_relays(self):
        # At the instant 3 the relay would move, but the hand comes first.
        found = made(PLAIN, [3], [1], [(0, "s"), (3, "s")], 9)
        self.assertEqual(found.moves, [hand(0), hand(3)])
        found = made(PLAIN, [3], [1], [(0, "s"), (4, "s")], 9)
        self.assertEqual(found.moves, [hand(0), relay(3), hand(4), relay(5)])

    def test_no_longer_due_and_due_again(self):
        events = [(0, "s"), (2, "s"), (3, "s"), (5, "s"), (6, "s")]
        found = made(PLAIN, [3], [1], events, 20)
        self.assertEqual(found.moves, [hand(at) for at in (0, 2, 3, 5, 6)] + [relay(9)])
        self.assertEqual((found.shows, found.rest), ([(0, DARK), (9, LIT)], 9))

    def test_a_break_within_one_instant(self):
        # The relay is due all the time but between the two hands of the instant 2.
        found = made(PLAIN, [3], [1], [(0, "s"), (2, "s"), (2, "s")], 20)
        self.assertEqual(found.moves, [hand(0), hand(2), hand(2), relay(5)])

    def test_due_in_the_first_state(self):
        board = small_board("ab", "s", ["ra"], ["xb"], ["pa!s", "pbr"])
        found = made(board, [4], [1], [], 9)
        self.assertEqual(found.moves, [relay(4)])
        found = made(board, [4], [1], [(0, "s"), (0, "s")], 9)
        self.assertEqual(found.moves, [hand(0), hand(0), relay(4)])
        found = made(board, [4], [1], [(0, "s"), (1, "s")], 9)
        self.assertEqual(found.moves, [hand(0), hand(1), relay(5)])
        found = made(board, [1], [1], [], 9)
        self.assertEqual(found.moves, [relay(1)])
        self.assertEqual(made(board, [4], [1], [], 3).moves, [])

    def test_due_by_the_move_of_an_earlier_relay(self):
        found = made(EARLY_FIRST, [1, 1], [1, 1], [(0, "s")], 9)
        self.assertEqual(found.moves, [hand(0), relay(1, "e"), relay(2, "l")])
        found = made(EARLY_FIRST, [2, 3], [1, 1], [(1, "s")], 9)
        self.assertEqual(found.moves, [hand(1), relay(3, "e"), relay(6, "l")])

    def test_due_by_the_move_of_a_later_relay(self):
        found = made(LATE_FIRST, [1, 1], [1, 1], [(0, "s")], 9)
        self.assertEqual(found.moves, [hand(0), relay(1, "e"), relay(2, "l")])
        found = made(LATE_FIRST, [3, 2], [1, 1], [(1, "s")], 9)
        self.assertEqual(found.moves, [hand(1), relay(3, "e"), relay(6, "l")])

    def test_no_longer_due_by_the_move_of_an_earlier_relay(self):
        # Both would move at the instant 2; the first one that does cuts the other one off.
        board = small_board("abc", "s", ["qb", "rc"], ["xc"], ["pas", "ab!r", "ac!q"])
        found = made(board, [2, 2], [1, 1], [(0, "s")], 9)
        self.assertEqual(found.moves, [hand(0), relay(2, "q")])
        board = small_board("abc", "s", ["rc", "qb"], ["xc"], ["pas", "ab!r", "ac!q"])
        found = made(board, [2, 2], [1, 1], [(0, "s")], 9)
        self.assertEqual(found.moves, [hand(0), relay(2)])

    def test_due_again_behind_its_own_move(self):
        found = made(BUZZER, [2], [3], [], 12)
        self.assertEqual(found.moves, [relay(at) for at in (2, 5, 7, 10, 12)])
        self.assertEqual(found.shows, [(at, DARK if k % 2 else LIT) for k, at in enumerate((0, 2, 5, 7, 10, 12))])
        self.assertIsNone(found.rest)
        found = made(BUZZER, [1], [1], [], 4)
        self.assertEqual(found.moves, [relay(at) for at in (1, 2, 3, 4)])

    def test_several_at_one_instant_in_the_order_of_the_board(self):
        found = made(THREE, [2, 2, 2], [1, 1, 1], [(0, "s"), (5, "s")], 9)
        ups = [relay(2, name) for name in "qrt"]
        downs = [relay(6, name) for name in "qrt"]
        self.assertEqual(found.moves, [hand(0), *ups, hand(5), *downs])
        found = made(THREE, [3, 1, 2], [2, 2, 1], [(0, "s"), (5, "s")], 9)
        expected = [hand(0), relay(1), relay(2, "t"), relay(3, "q"), hand(5), relay(6, "t"), relay(7, "q"), relay(7)]
        self.assertEqual(found.moves, expected)

    def test_a_fuse_that_blows(self):
        found = made(FUSE, [2], [3], [(0, "s")], 9)
        self.assertEqual(found.moves, [hand(0), relay(2), relay(5)])
        self.assertEqual(found.shows, [(0, LIT), (2, BLOWN)])
        self.assertEqual((found.state, found.rest), (((True, False), True), 5))
        # It is blown within the instant, and stays so.
        board = small_board("a", "st", [], ["xa"], ["pas", "pmt"])
        found = made(board, [], [], [(2, "t"), (2, "t"), (4, "s")], 9)
        self.assertEqual((found.shows, found.state), ([(0, DARK), (2, BLOWN)], ((True, False), True)))
        # It is blown in the first state.
        found = made(small_board("a", "s", ["ra"], ["xa"], ["pm-", "pa-"]), [1], [1], [(1, "s")], 9)
        self.assertEqual((found.moves, found.shows, found.rest), ([hand(1)], [(0, BLOWN)], 0))

    def test_what_changes_within_an_instant_alone_is_not_shown(self):
        found = made(BARE, [], [], [(2, "s"), (2, "s"), (4, "s")], 9)
        self.assertEqual(found.shows, [(0, DARK), (4, LIT)])
        found = made(BARE, [], [], [(0, "s"), (3, "t"), (4, "s"), (4, "s")], 9)
        self.assertEqual(found.shows, [(0, LIT)])

    def test_rest(self):
        self.assertEqual(made(PLAIN, [3], [1], [(2, "s")], 9).rest, 5)
        self.assertEqual(made(PLAIN, [3], [1], [(2, "s")], 5).rest, 5)
        self.assertIsNone(made(PLAIN, [3], [1], [(2, "s")], 4).rest)
        self.assertEqual(made(PLAIN, [3], [1], [(2, "s")], 1).rest, 0)
        self.assertEqual(made(BARE, [], [], [(2, "s"), (5, "t")], 9).rest, 0)
        # Due at some ends of instants, not at others, and due again.
        self.assertEqual(made(PLAIN, [3], [1], [(2, "s"), (4, "s"), (6, "s"), (7, "s")], 9).rest, 7)
        self.assertEqual(made(PLAIN, [1], [1], [(0, "s"), (5, "s")], 9).rest, 6)
        self.assertEqual(made(PLAIN, [1], [1], [(0, "s"), (5, "s")], 4).rest, 1)
        # Due within the instant, and not at its end.
        self.assertEqual(made(PLAIN, [1], [1], [(2, "s"), (2, "s")], 9).rest, 0)
        # A board that stops buzzing.
        found = made(STOPPED, [1], [1], [(3, "s")], 9)
        self.assertEqual((found.moves, found.rest), ([relay(1), relay(2), hand(3)], 3))
        self.assertIsNone(made(STOPPED, [1], [1], [(3, "s")], 2).rest)
        self.assertEqual(made(STOPPED, [1], [2], [(4, "s")], 9).rest, 4)

    def test_two_runs_of_the_same_delays(self):
        delays = Delays(PLAIN, up=[2], down=[2])
        first = timed_run(delays, [(0, "s")], until=9)
        second = timed_run(delays, [], until=9)
        third = timed_run(delays, [(0, "s")], until=9)
        self.assertEqual(first.moves, third.moves)
        self.assertEqual(second.moves, [])
        self.assertEqual((delays.up, delays.down), ((2,), (2,)))

    def test_the_board_stays_as_it_was(self):
        before = parts_of(FUSE)
        made(FUSE, [2], [3], [(0, "s"), (4, "s")], 9)
        self.assertEqual(parts_of(FUSE), before)


def many_runs():
    """Boards with delays, events and an end."""
    for seed in range(60):
        dice = Dice(seed)
        for board in (odd_board(seed, 2, 3), busy_board(seed), deep_board(seed, 2, 3)):
            up = [1 + dice.below(4) for _ in board.relays]
            down = [1 + dice.below(4) for _ in board.relays]
            events, instant = [], 0
            for _ in range(dice.below(8) if board.switches else 0):
                instant += dice.below(4)
                events.append((instant, dice.pick(board.switches)))
            yield board, up, down, events, dice.below(25)


class TestManyRuns(unittest.TestCase):
    def test_as_the_points_tell(self):
        rests = {}
        for board, up, down, events, until in many_runs():
            found = made(board, up, down, events, until)
            moves, shows, busy, state = timed.timed_run(board, up, down, events, until)
            self.assertEqual((found.moves, found.state, found.until), (moves, state, until))
            self.assertEqual(found.shows, timed.told_shows(shows))
            self.assertEqual(found.rest, timed.told_rest(busy, until))
            rests[found.rest] = True
        self.assertGreater(len(rests), 12)
        self.assertIn(None, rests)

    def test_the_moves_are_a_play(self):
        for board, up, down, events, until in many_runs():
            found = made(board, up, down, events, until)
            outcome = run_play(board, found.plain(), hurry=8)
            self.assertEqual((outcome.state, outcome.show), (found.state, found.shows[-1][1]))

    def test_what_runs_show(self):
        earlier = None
        differences = {}
        for board, up, down, events, until in many_runs():
            found = made(board, up, down, events, until)
            _, shows, _, _ = timed.timed_run(board, up, down, events, until)
            self.assertEqual([shown_at(found, at) for at in range(until + 1)], shows)
            for lamp in ("l0", "l1", "nothing"):
                lit = [at for at, show in enumerate(shows) if lamp in show[0]]
                self.assertEqual(lit_time(found, lamp), len(lit))
                starts = [at for at in lit if at - 1 not in lit]
                ends = [at + 1 for at in lit if at + 1 not in lit]
                self.assertEqual(pulses(found, lamp), list(zip(starts, ends)))
            if earlier is not None:
                parted = [at for at, (one, other) in enumerate(zip(shows, earlier[1])) if one != other]
                expected = parted[0] if parted else None
                self.assertEqual(first_difference(found, earlier[0]), expected)
                self.assertEqual(first_difference(earlier[0], found), expected)
                differences[expected] = True
            earlier = (found, shows)
        self.assertGreater(len(differences), 4)
        self.assertIn(None, differences)


class TestPulses(unittest.TestCase):
    def check(self, run, lamp, expected):
        self.assertEqual(pulses(run, lamp), expected)
        self.assertEqual(lit_time(run, lamp), sum(end - start for start, end in expected))

    def test_never_lit(self):
        self.check(made(PLAIN, [1], [1], [], 9), "x", [])

    def test_always_lit(self):
        board = small_board("a", "s", ["ra"], ["xa"], ["pa-"])
        self.check(made(board, [1], [1], [], 9), "x", [(0, 10)])
        self.check(made(board, [1], [1], [], 0), "x", [(0, 1)])

    def test_lit_at_the_instant_0(self):
        self.check(made(BARE, [], [], [(0, "s"), (3, "s")], 9), "x", [(0, 3)])
        self.check(made(BARE, [], [], [(0, "s"), (1, "s")], 9), "x", [(0, 1)])

    def test_lit_at_the_end(self):
        self.check(made(BARE, [], [], [(4, "s")], 9), "x", [(4, 10)])
        self.check(made(BARE, [], [], [(9, "s")], 9), "x", [(9, 10)])
        self.check(made(BARE, [], [], [(8, "s"), (9, "s")], 9), "x", [(8, 9)])

    def test_several(self):
        events = [(at, "s") for at in (1, 2, 4, 7, 8)]
        self.check(made(BARE, [], [], events, 9), "x", [(1, 2), (4, 7), (8, 10)])
        self.check(made(BUZZER, [2], [3], [], 12), "x", [(0, 2), (5, 7), (10, 12)])

    def test_each_lamp_has_its_own(self):
        board = small_board("ab", "st", [], ["xa", "yb"], ["pas", "pbt"])
        found = made(board, [], [], [(1, "s"), (3, "t"), (4, "s"), (6, "t")], 9)
        self.check(found, "x", [(1, 4)])
        self.check(found, "y", [(3, 6)])

    def test_a_name_that_no_lamp_has(self):
        found = made(BARE, [], [], [(0, "s")], 9)
        for name in ("s", "a", "p", "y", "xx", ""):
            self.check(found, name, [])

    def test_lit_within_an_instant_alone(self):
        self.check(made(BARE, [], [], [(2, "s"), (2, "s")], 9), "x", [])
        # The switch lights the lamp, and the relay that moves in the same instant puts it out.
        found = made(SHORTLIT, [1], [2], [(0, "s"), (2, "s"), (3, "s")], 9)
        self.assertEqual(found.moves, [hand(0), relay(1), hand(2), hand(3)])
        self.check(found, "x", [(0, 1)])
        board = small_board("ab", "st", ["ra"], ["xb"], ["pas", "pbt", "pb!r"])
        found = made(board, [2], [2], [(0, "s"), (2, "t"), (2, "t")], 9)
        self.check(found, "x", [(0, 2)])

    def test_dark_within_an_instant_alone(self):
        self.check(made(BARE, [], [], [(0, "s"), (2, "s"), (2, "s")], 9), "x", [(0, 10)])

    def test_a_fuse_that_blows(self):
        self.check(made(FUSE, [2], [3], [(1, "s")], 9), "x", [(1, 3)])

    def test_shows_that_are_given(self):
        # Another lamp changes while this one is live.
        both = (("x", "y"), False)
        found = shows_run(9, (0, DARK), (2, LIT), (4, both), (5, LIT), (7, DARK))
        self.check(found, "x", [(2, 7)])
        self.check(found, "y", [(4, 5)])

    def test_the_list_is_new(self):
        found = made(BARE, [], [], [(1, "s")], 9)
        pulses(found, "x").clear()
        self.check(found, "x", [(1, 10)])


class TestShownAt(unittest.TestCase):
    def test_every_instant(self):
        found = made(PLAIN, [3], [1], [(2, "s"), (9, "s")], 12)
        expected = [DARK] * 5 + [LIT] * 5 + [DARK] * 3
        self.assertEqual([shown_at(found, at) for at in range(13)], expected)

    def test_a_run_of_one_instant(self):
        self.assertEqual(shown_at(made(BARE, [], [], [(0, "s")], 0), 0), LIT)

    def test_a_long_run(self):
        found = made(BUZZER, [1], [1], [], 1000)
        self.assertEqual(len(found.shows), 1001)
        self.assertEqual([shown_at(found, at) for at in (0, 1, 999, 1000)], [LIT, DARK, DARK, LIT])
        self.assertEqual((lit_time(found, "x"), len(pulses(found, "x"))), (501, 501))


class TestFirstDifference(unittest.TestCase):
    def check(self, one, other, expected):
        self.assertEqual(first_difference(one, other), expected)
        self.assertEqual(first_difference(other, one), expected)

    def test_none(self):
        one = made(PLAIN, [3], [1], [(2, "s")], 9)
        self.check(one, one, None)
        self.check(one, made(PLAIN, [3], [5], [(2, "s")], 9), None)
        # The same shows by other moves.
        self.check(one, made(BARE, [], [], [(5, "s")], 9), None)

    def test_at_the_instant_0(self):
        self.check(made(BARE, [], [], [(0, "s")], 9), made(BARE, [], [], [], 9), 0)
        self.check(made(BARE, [], [], [(0, "s")], 0), made(BARE, [], [], [], 0), 0)

    def test_later(self):
        one = made(PLAIN, [3], [1], [(2, "s"), (9, "s")], 20)
        self.check(one, made(PLAIN, [3], [2], [(2, "s"), (9, "s")], 20), 10)
        self.check(one, made(PLAIN, [2], [1], [(2, "s"), (9, "s")], 20), 4)
        self.check(one, made(PLAIN, [3], [1], [(2, "s")], 20), 10)

    def test_at_the_lesser_end(self):
        one = made(BARE, [], [], [(5, "s")], 9)
        self.check(one, made(BARE, [], [], [], 5), 5)
        self.check(one, made(BARE, [], [], [], 20), 5)

    def test_behind_the_lesser_end_alone(self):
        one = made(BARE, [], [], [(5, "s")], 9)
        self.check(one, made(BARE, [], [], [], 4), None)
        self.check(one, made(BARE, [], [], [(5, "s"), (10, "s")], 20), None)
        self.check(one, made(BARE, [], [], [], 0), None)

    def test_the_fuse_counts(self):
        self.check(shows_run(9, (0, DARK), (4, BLOWN)), shows_run(9, (0, DARK)), 4)

    def test_the_same_again_later(self):
        self.check(shows_run(9, (0, DARK), (4, LIT), (5, DARK)), shows_run(9, (0, DARK)), 4)
        self.check(shows_run(9, (0, DARK), (4, LIT), (6, DARK)), shows_run(9, (0, DARK), (4, LIT)), 6)


if __name__ == "__main__":
    unittest.main()
