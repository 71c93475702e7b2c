import unittest

from leverhouse.agree import Parting, Unsettled, agree
from leverhouse.boards import Board
from leverhouse.errors import TooMany
from leverhouse.pairs import all_pairs
from leverhouse.plays import run, switching_of
from leverhouse.races import greatest_hurry, is_determinate, least_race, race
from leverhouse.search import all_states
from tests import naive, slow
from tests.checks import check_defaults, check_limits, told
from tests.samples import busy_board, odd_board, parts_of, small_board, small_play

LIT, DARK = (("x",), False), ((), False)

# The lamp follows the switch, and a relay does so, too.
PLAIN = small_board("a", "s", ["ra"], ["xa"], ["pas"])
# The relay holds itself, if it is given the time to come up.
HASTY = small_board("a", "s", ["ra"], ["xa"], ["pas", "par"])
# Of two relays the first one that comes up cuts the other one off.
RIVALS = small_board("abc", "s", ["qb", "rc"], ["xb"], ["pas", "ab!r", "ac!q"])
BUZZER = small_board("a", "", ["ra"], ["xa"], ["pa!r"])
# Both relays hold themselves; z buzzes if q alone is up with s off.
LATE_BUZZER = small_board(
    "abcdef", "s", ["qa", "rb", "zc"], ["xa"], ["pas", "pbs", "paq", "pbr", "pdq", "de!r", "ef!s", "fc!z"]
)


def latch(count):
    """A board with so many relays: one that is up holds all of them.

    In a smaller hurry than their number, one of them is up before the switch can be off again.
    """
    names = "abcdefgh"[:count]
    contacts = ["pns"] + [f"pn{name}" for name in names]
    return small_board("n", "s", [f"{name}n" for name in names], ["xn"], contacts)


def fuse(count):
    """A board with so many relays: the first one that is up blows the fuse.

    In a smaller hurry than their number, that comes before the switch can be off again.
    """
    names = "abcdefgh"[:count]
    return small_board("n", "s", [f"{name}n" for name in names], ["xn"], ["pns"] + [f"pm{name}" for name in names])


def many_boards():
    for seed in range(40):
        yield odd_board(seed, 2, 3)
        yield busy_board(seed)
    for seed in (206, 453):
        yield busy_board(seed)
        yield odd_board(seed)


def counted(board, hurry):
    """How many are counted for the race in this hurry."""
    states = all_states(board, hurry=hurry, limit=20000)
    return max(len(states), len(all_pairs(board, board, hurry=hurry, limit=20000)))


class TestRace(unittest.TestCase):
    def check(self, board, expected, **given):
        self.assertEqual(told(race(board, **given)), expected)
        self.assertIs(is_determinate(board, **given), expected is None)

    def test_no_race(self):
        bare = small_board()
        for board in (PLAIN, bare, small_board("a", "s", [], ["xa"], ["pms"])):
            for hurry in range(9):
                self.check(board, None, hurry=hurry)

    def test_a_race_without_hurry(self):
        shows = (LIT, DARK)
        for hurry in range(9):
            self.check(RIVALS, (small_play("S q"), small_play("S r"), shows), hurry=hurry)

    def test_a_race_in_one_hurry_and_not_in_the_one_before(self):
        self.check(HASTY, None)
        self.check(HASTY, None, hurry=0)
        for hurry in range(1, 9):
            self.check(HASTY, (small_play("S r S"), small_play("S S"), (LIT, DARK)), hurry=hurry)

    def test_a_race_in_each_hurry(self):
        for count in range(1, 5):
            board = latch(count)
            self.check(board, None, hurry=count - 1)
            found = race(board, hurry=count)
            self.assertEqual((found.second, found.shows), (small_play("S S"), (LIT, DARK)))
            self.assertFalse(is_determinate(board, hurry=count))

    def test_a_board_that_does_not_settle(self):
        for hurry in (0, 8):
            self.check(BUZZER, ("one", [], small_play("r r")), hurry=hurry)
        self.check(LATE_BUZZER, None)
        self.check(LATE_BUZZER, ("one", small_play("S q S"), small_play("z z")), hurry=1)

    def test_the_kinds_of_results(self):
        self.assertIsNone(race(PLAIN))
        self.assertIsInstance(race(BUZZER), Unsettled)
        self.assertEqual(race(BUZZER).which, "one")
        self.assertIsInstance(race(RIVALS), Parting)

    def test_on_many_boards(self):
        answers = {True: 0, False: 0}
        for board in many_boards():
            slow_board = slow.Slow(board)
            for hurry in (0, 1, 2, 8):
                expected = slow.agree(slow_board, slow_board, hurry)
                self.check(board, expected, hurry=hurry)
                self.assertEqual(told(agree(board, board, hurry=hurry)), expected)
                answers[expected is None] += 1
        self.assertGreater(min(answers.values()), 50)

    def test_two_plays_of_one_switching(self):
        partings = 0
        for board in many_boards():
            for hurry in (0, 1, 8):
                found = race(board, hurry=hurry)
                if isinstance(found, Parting):
                    partings += 1
                    first, second = run(board, found.first, hurry=hurry), run(board, found.second, hurry=hurry)
                    self.assertTrue(first.at_rest and second.at_rest)
                    self.assertEqual((first.show, second.show), found.shows)
                    self.assertNotEqual(first.show, second.show)
                    self.assertEqual(switching_of(found.first), switching_of(found.second))
        self.assertGreater(partings, 20)

    def test_short_plays_of_determinate_boards(self):
        for board in many_boards():
            slow_board = slow.Slow(board)
            for hurry in (0, 1):
                if not is_determinate(board, hurry=hurry):
                    continue
                shows = {}
                for play, state in naive.plays_by_length(board, hurry, 4):
                    if slow_board.rests(state):
                        known = shows.setdefault(tuple(switching_of(play)), slow_board.show(state))
                        self.assertEqual(slow_board.show(state), known)

    def test_smaller_and_greater_hurries(self):
        for board in many_boards():
            answers = [is_determinate(board, hurry=hurry) for hurry in range(9)]
            self.assertEqual(answers, sorted(answers, reverse=True))
            self.assertEqual(len(set(answers[len(board.relays):])), 1)

    def test_the_limit(self):
        for board in [PLAIN, HASTY, RIVALS, BUZZER, LATE_BUZZER, *list(many_boards())[:20]]:
            for hurry in (0, 1, 8):
                for question in (race, is_determinate):
                    count = counted(board, hurry)
                    check_limits(self, count, lambda limit: question(board, hurry=hurry, limit=limit))

    def test_what_is_not_given(self):
        check_defaults(self, race, is_determinate, least_race, greatest_hurry)

    def test_the_example(self):
        board = Board(
            nodes=["p", "m", "x"],
            switches=["s"],
            relays=[("r", "x", "m")],
            lamps=[("l", "x", "m")],
            contacts=[("p", "x", "s", "make", "both"), ("p", "x", "r", "make", "both")],
        )
        found = race(board, hurry=1)
        first = [("hand", "s"), ("relay", "r"), ("hand", "s")]
        self.assertEqual((found.first, found.second), (first, [("hand", "s"), ("hand", "s")]))
        self.assertEqual(found.shows, ((("l",), False), ((), False)))

    def test_boards_do_not_change_and_answers_are_new_ones(self):
        before = parts_of(RIVALS)
        found = race(RIVALS)
        found.first.clear()
        found.second.clear()
        least_race(RIVALS)[1].first.clear()
        self.check(RIVALS, (small_play("S q"), small_play("S r"), (LIT, DARK)))
        self.assertEqual(parts_of(RIVALS), before)


class TestLeastRace(unittest.TestCase):
    def check(self, board, hurry, expected, **given):
        found = least_race(board, **given)
        self.assertIsInstance(found, tuple)
        self.assertEqual((found[0], told(found[1])), (hurry, expected))
        self.assertEqual(greatest_hurry(board, **given), hurry - 1 if hurry else None)

    def test_no_race_in_any_hurry(self):
        for board in (PLAIN, small_board(), small_board("a", "st", [], ["xa"], ["pas", "pmt"])):
            self.assertIsNone(least_race(board))
            self.assertEqual(greatest_hurry(board), 8)

    def test_a_race_in_the_hurry_0(self):
        self.check(RIVALS, 0, (small_play("S q"), small_play("S r"), (LIT, DARK)))
        self.check(BUZZER, 0, ("one", [], small_play("r r")))

    def test_a_race_in_a_later_hurry(self):
        self.check(HASTY, 1, (small_play("S r S"), small_play("S S"), (LIT, DARK)))
        self.check(LATE_BUZZER, 1, ("one", small_play("S q S"), small_play("z z")))

    def test_a_race_in_every_hurry(self):
        for count in range(1, 9):
            shows = (((), True), DARK)
            self.check(fuse(count), count, (small_play("S a S a"), small_play("S S"), shows))
        for count in range(1, 5):
            least = least_race(latch(count))
            self.assertEqual((least[0], least[1].second), (count, small_play("S S")))
            self.assertEqual(greatest_hurry(latch(count)), count - 1)

    def test_on_many_boards(self):
        hurries = {}
        for board in many_boards():
            slow_board = slow.Slow(board)
            races = [slow.agree(slow_board, slow_board, hurry) for hurry in range(len(board.relays) + 1)]
            found = [(hurry, told) for hurry, told in enumerate(races) if told is not None]
            if found:
                self.check(board, *found[0])
            else:
                self.assertIsNone(least_race(board))
                self.assertEqual(greatest_hurry(board), 8)
            hurries[found[0][0] if found else None] = True
        self.assertEqual(set(hurries), {None, 0, 1, 2})

    def check_limit(self, board, tried):
        """All that is counted in the hurries that are tried, and nothing else."""
        count = max([counted(board, hurry) for hurry in tried])
        for question in (least_race, greatest_hurry):
            check_limits(self, count, lambda limit: question(board, limit=limit))

    def test_too_many_as_the_hurries_are_tried(self):
        for board in many_boards():
            found = least_race(board)
            self.check_limit(board, range(9 if found is None else found[0] + 1))

    def test_hurries_behind_the_least_race_are_not_tried(self):
        for board, hurry in ((latch(1), 1), (latch(2), 2), (RIVALS, 0), (busy_board(4), 1), (busy_board(22), 0)):
            self.assertEqual(least_race(board)[0], hurry)
            self.check_limit(board, range(hurry + 1))
        # With more hurry there is more to be counted.
        self.assertGreater(counted(busy_board(22), 1), counted(busy_board(22), 0))
        self.assertGreater(counted(busy_board(4), 2), counted(busy_board(4), 1))

    def test_too_many_in_a_hurry_before_the_least_race(self):
        board = busy_board(4)
        for limit in (1, 96):
            self.assertLess(limit, counted(board, 0))
            with self.assertRaises(TooMany):
                least_race(board, limit=limit)
        # Enough for the hurry 0, but not for the hurry 1, in which the race is.
        for limit in (97, 478):
            self.assertTrue(is_determinate(board, limit=limit))
            for question in (least_race, greatest_hurry):
                with self.assertRaises(TooMany) as caught:
                    question(board, limit=limit)
                self.assertEqual(caught.exception.limit, limit)
        self.assertEqual(greatest_hurry(board, limit=479), 0)


if __name__ == "__main__":
    unittest.main()
