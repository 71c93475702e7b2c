import unittest

from leverhouse.boards import Board
from leverhouse.ends import rest_shows
from leverhouse.errors import NotDeterminate, TooMany, UnknownName
from leverhouse.howto import how_to, show_at_rest, way_back
from leverhouse.plays import run
from leverhouse.races import is_determinate
from tests import slow
from tests.checks import check_defaults, check_limits
from tests.samples import bridge_board, busy_board, deep_board, odd_board, parts_of, small_board

LIT, DARK = (("x",), False), ((), False)

# x and z go with the one switch, y with the other one.
LAMPS = small_board("abc", "st", [], ["xa", "yb", "zc"], ["pas", "pbt", "ac-"])
# The relay holds itself, if it is given the time to come up; a second switch breaks its hold.
LATCH = small_board("ab", "st", ["ra"], ["xa"], ["pas", "pbr", "ba!t"])
# Both switches on blow the fuse.
FUSE = small_board("ab", "st", [], ["xa"], ["pas", "pbs", "bmt"])
BLOWN = small_board("a", "s", [], ["xa"], ["pm-"])
BUZZER = small_board("a", "s", ["ra"], ["xa"], ["pa!r"])
# Of two relays the first one that comes up cuts the other one off.
RIVALS = small_board("abc", "s", ["qb", "rc"], ["xb"], ["pas", "ab!r", "ac!q"])


def determinate_boards():
    """Boards with a hurry in which they are determinate."""
    for seed in range(40):
        for board in (odd_board(seed, 2, 2), busy_board(seed), deep_board(seed, 2, 2), bridge_board(seed)):
            for hurry in (0, 1, 8):
                if is_determinate(board, hurry=hurry):
                    yield board, hurry


def some_switchings(board):
    for switching in slow.switchings(board, 3):
        yield switching
    for name in board.switches:
        yield [name] * 7 + list(board.switches)


def all_off(state, board):
    return not any(state[0][:len(board.switches)])


class TestShowAtRest(unittest.TestCase):
    def test_the_empty_switching(self):
        for hurry in (0, 1, 8):
            self.assertEqual(show_at_rest(FUSE, [], hurry=hurry), DARK)
            self.assertEqual(show_at_rest(BLOWN, [], hurry=hurry), ((), True))
        # Relays that are due in the first state come to rest first.
        board = small_board("ab", "s", ["ra"], ["xb"], ["pa-", "pbr"])
        self.assertEqual(show_at_rest(board, []), LIT)

    def test_longer_switchings(self):
        for switching, expected in (
            (["s"], LIT),
            (["s", "s"], LIT),
            (["s", "s", "t"], DARK),
            (["s", "t"], LIT),
            (["s", "t", "s"], DARK),
            (["s", "t", "t", "s", "t", "t"], DARK),
            (["t"], DARK),
            (["t", "t", "s", "s"] * 25, LIT),
        ):
            self.assertEqual(show_at_rest(LATCH, switching), expected)

    def test_a_blown_fuse(self):
        self.assertEqual(show_at_rest(FUSE, ["s", "t"]), ((), True))
        self.assertEqual(show_at_rest(FUSE, ["t", "s"]), ((), True))
        self.assertEqual(show_at_rest(FUSE, ["s", "t", "t", "s", "s"]), ((), True))

    def test_in_several_hurries(self):
        follower = small_board("ab", "s", ["ra"], ["xb"], ["pas", "pbr"])
        for hurry in range(9):
            self.assertEqual(show_at_rest(follower, ["s"], hurry=hurry), LIT)
            self.assertEqual(show_at_rest(follower, ["s", "s"], hurry=hurry), DARK)

    def test_on_many_boards(self):
        seen = 0
        for board, hurry in determinate_boards():
            slow_board = slow.Slow(board)
            for switching in some_switchings(board):
                (expected,) = slow.rest_shows(slow_board, switching, hurry)
                self.assertEqual(show_at_rest(board, switching, hurry=hurry), expected)
                self.assertEqual(rest_shows(board, switching, hurry=hurry), [expected])
                seen += expected != ((), False)
        self.assertGreater(seen, 500)


class TestHowTo(unittest.TestCase):
    def test_no_lamps(self):
        self.assertEqual(how_to(LATCH, []), [])
        lit = small_board("a", "st", [], ["xa"], ["pa!t"])
        self.assertEqual(how_to(lit, []), ["t"])
        # Nothing is live with a blown fuse.
        self.assertEqual(how_to(BLOWN, []), [])
        board = small_board("a", "st", [], ["xa"], ["pa-", "pmt"])
        self.assertEqual(show_at_rest(board, ["t"]), ((), True))
        self.assertEqual(how_to(board, []), ["t"])
        self.assertIsNone(how_to(small_board("a", "s", [], ["xa"], ["pa-"]), []))

    def test_one_lamp_and_several(self):
        self.assertEqual(how_to(LAMPS, ["y"]), ["t"])
        self.assertEqual(how_to(LAMPS, ["x", "z"]), ["s"])
        self.assertEqual(how_to(LAMPS, ["z", "x"]), ["s"])
        self.assertEqual(how_to(LAMPS, ["y", "z", "x"]), ["s", "t"])

    def test_no_other_lamps(self):
        for on in (["x"], ["z"], ["x", "y"], ["y", "z"]):
            self.assertIsNone(how_to(LAMPS, on))

    def test_a_lamp_twice(self):
        self.assertEqual(how_to(LAMPS, ["y", "y"]), ["t"])
        self.assertEqual(how_to(LAMPS, ["x", "z", "x", "z", "z"]), ["s"])
        self.assertIsNone(how_to(LAMPS, ["x", "x"]))

    def test_not_on_the_way(self):
        # The lamp is live only until the relay is up.
        board = small_board("ab", "s", ["ra"], ["xb"], ["pas", "ab!r"])
        self.assertIsNone(how_to(board, ["x"]))

    def test_not_with_a_blown_fuse(self):
        board = small_board("a", "s", [], ["xa"], ["pas", "pms"])
        self.assertIsNone(how_to(board, ["x"]))

    def test_a_longer_switching(self):
        # The lamp is live if the relay is up with s off.
        board = small_board("abc", "st", ["ra"], ["xc"], ["pas", "pbr", "ba!t", "bc!s"])
        self.assertEqual(how_to(board, ["x"]), ["s", "s"])
        self.assertEqual(how_to(board, []), [])

    def test_the_first_of_several(self):
        # Both switches together, in either order.
        for switches in ("st", "ts", "az", "za"):
            one, other = switches
            board = small_board("ab", switches, [], ["xb"], [f"pa{one}", f"ab{other}"])
            self.assertEqual(how_to(board, ["x"]), [one, other])
            board = small_board("ab", switches, [], ["xa"], [f"pa{other}", f"pa{one}"])
            self.assertEqual(how_to(board, ["x"]), [one])

    def test_in_several_hurries(self):
        for hurry in range(9):
            board = small_board("ab", "s", ["ra"], ["xb"], ["pas", "pbr"])
            self.assertEqual(how_to(board, ["x"], hurry=hurry), ["s"])

    def test_on_many_boards(self):
        lengths = {}
        for board, hurry in determinate_boards():
            slow_board = slow.Slow(board)
            firsts = {}
            for switching in slow.switchings(board, 4):
                ((lamps, _),) = slow.rest_shows(slow_board, switching, hurry)
                firsts.setdefault(lamps, switching)
            names = [lamp[0] for lamp in board.lamps]
            for number in range(2 ** len(names)):
                on = [name for at, name in enumerate(names) if number >> at & 1]
                found = how_to(board, on[::-1], hurry=hurry)
                if tuple(on) in firsts:
                    self.assertEqual(found, firsts[tuple(on)])
                    lengths[len(found)] = True
                elif found is not None:
                    self.assertGreater(len(found), 4)
                    self.assertEqual(show_at_rest(board, found, hurry=hurry)[0], tuple(on))
        self.assertLessEqual({0, 1, 2}, set(lengths))


class TestWayBack(unittest.TestCase):
    def test_back_at_once(self):
        for board in (LATCH, FUSE, BLOWN):
            self.assertEqual(way_back(board, []), [])
        self.assertEqual(way_back(FUSE, ["s", "s"]), [])
        self.assertEqual(way_back(LATCH, ["t", "t", "t", "t"]), [])

    def test_switches_have_to_be_off(self):
        self.assertEqual(way_back(FUSE, ["s"]), ["s"])
        self.assertEqual(way_back(FUSE, ["t"]), ["t"])
        # What is shown is the same all the time.
        dark = small_board("a", "stu", [], ["xa"], [])
        self.assertEqual(way_back(dark, ["u", "s"]), ["s", "u"])
        self.assertEqual(way_back(dark, ["u", "s", "t", "u", "s"]), ["t"])

    def test_the_show_has_to_be_the_same(self):
        self.assertEqual(way_back(LATCH, ["s"]), ["s", "t", "t"])
        self.assertEqual(way_back(LATCH, ["s", "s"]), ["t", "t"])
        self.assertEqual(way_back(LATCH, ["s", "t", "s"]), ["t"])

    def test_relays_may_stand_otherwise(self):
        # The relay holds itself for good, and no lamp shows it.
        board = small_board("ab", "s", ["ra"], ["xb"], ["pas", "par", "pbs"])
        self.assertEqual(way_back(board, ["s"]), ["s"])
        self.assertEqual(way_back(board, ["s", "s"]), [])

    def test_the_lamps_of_a_lit_board(self):
        # The lamp is live behind the empty switching.
        board = small_board("a", "s", [], ["xa"], ["pa!s"])
        self.assertEqual(way_back(board, ["s"]), ["s"])
        board = small_board("ab", "s", ["ra"], ["xb"], ["pas", "par", "pb!r"])
        self.assertIsNone(way_back(board, ["s"]))

    def test_the_fuse(self):
        self.assertIsNone(way_back(FUSE, ["s", "t"]))
        self.assertIsNone(way_back(FUSE, ["s", "t", "t", "s"]))
        # No lamp is live before or behind, so that the fuse alone is another one.
        board = small_board("a", "s", [], ["xa"], ["pms"])
        self.assertIsNone(way_back(board, ["s"]))
        # A fuse that is blown from the first state on is the same fuse.
        self.assertEqual(way_back(BLOWN, ["s"]), ["s"])
        # The way back itself must not blow the fuse: here t has to be off before s is on.
        self.assertEqual(way_back(FUSE, ["t", "t", "s"]), ["s"])

    def test_no_way_back(self):
        board = small_board("a", "s", ["ra"], ["xa"], ["pas", "par"])
        self.assertIsNone(way_back(board, ["s"]))
        self.assertIsNone(way_back(board, ["s", "s"]))

    def test_the_first_of_several(self):
        for switches in ("st", "ts", "az", "za"):
            one, other = switches
            board = small_board("ab", switches, [], ["xa"], [f"pa{one}", f"ab{other}"])
            self.assertEqual(way_back(board, [one, other]), [one, other])
            self.assertEqual(way_back(board, [other, one]), [one, other])

    def test_on_many_boards(self):
        lengths = {}
        for board, hurry in determinate_boards():
            slow_board = slow.Slow(board)
            start = slow.rest_shows(slow_board, [], hurry)
            ends = {}
            for switching in slow.switchings(board, 5):
                states = [state for state in slow.possible(slow_board, switching, hurry) if slow_board.rests(state)]
                shows = {slow_board.show(state) for state in states}
                ends[tuple(switching)] = shows == start and all(all_off(state, board) for state in states)
            for switching in slow.switchings(board, 2):
                backs = [more for more in slow.switchings(board, 3) if ends[(*switching, *more)]]
                found = way_back(board, switching, hurry=hurry)
                if backs:
                    self.assertEqual(found, backs[0])
                elif found is not None:
                    self.assertGreater(len(found), 3)
                    whole = switching + found
                    self.assertEqual(show_at_rest(board, whole, hurry=hurry), show_at_rest(board, [], hurry=hurry))
                    for name in board.switches:
                        self.assertEqual(whole.count(name) % 2, 0)
                lengths[None if found is None else len(found)] = True
        self.assertLessEqual({None, 0, 1, 2}, set(lengths))


class TestErrors(unittest.TestCase):
    def check_unknown(self, question, names, name, **given):
        with self.assertRaises(UnknownName) as caught:
            question(*names, **given)
        self.assertEqual(caught.exception.name, name)

    def test_names_of_no_switch(self):
        for question in (show_at_rest, way_back):
            for switching, name in (
                (["r"], "r"),
                (["x"], "x"),
                (["a"], "a"),
                ([""], ""),
                (["s", "w", "r"], "w"),
                (["s", "t", "s", "r", "w"], "r"),
            ):
                for limit in (1, 3000):
                    self.check_unknown(question, (LATCH, switching), name, limit=limit)

    def test_names_of_no_lamp(self):
        for on, name in ((["r"], "r"), (["s"], "s"), (["x", "w", "v"], "w"), (["a"], "a"), (["x", "x", ""], "")):
            for limit in (1, 3000):
                self.check_unknown(how_to, (LATCH, on), name, limit=limit)

    def test_unknown_names_come_before_a_race(self):
        for board in (BUZZER, RIVALS):
            for limit in (1, 3000):
                self.check_unknown(show_at_rest, (board, ["s", "x"]), "x", limit=limit)
                self.check_unknown(way_back, (board, ["s", "x"]), "x", limit=limit)
                self.check_unknown(how_to, (board, ["x", "s"]), "s", limit=limit)

    def questions(self, board, **given):
        yield lambda **more: show_at_rest(board, [], **given, **more)
        yield lambda **more: show_at_rest(board, list(board.switches), **given, **more)
        yield lambda **more: how_to(board, [], **given, **more)
        yield lambda **more: how_to(board, [board.lamps[0][0]], **given, **more)
        yield lambda **more: way_back(board, [], **given, **more)
        yield lambda **more: way_back(board, list(board.switches), **given, **more)

    def test_not_determinate(self):
        for board in (BUZZER, RIVALS):
            for hurry in (0, 1, 8):
                for question in self.questions(board, hurry=hurry):
                    with self.assertRaises(NotDeterminate):
                        question()

    def test_determinate_in_a_smaller_hurry_alone(self):
        for question in self.questions(LATCH):
            question()
        for hurry in (1, 2, 8):
            for question in self.questions(LATCH, hurry=hurry):
                with self.assertRaises(NotDeterminate):
                    question()

    def test_too_many_comes_before_not_determinate(self):
        for board in (BUZZER, RIVALS):
            for question in self.questions(board):
                with self.assertRaises(TooMany) as caught:
                    question(limit=1)
                self.assertEqual(caught.exception.limit, 1)

    def test_the_limit_is_that_of_the_race(self):
        for board, hurry in [(LATCH, 0), (FUSE, 0), (BLOWN, 0), *list(determinate_boards())[:60]]:
            slow_board = slow.Slow(board)
            count = slow.agree_count(slow_board, slow_board, hurry)
            for question in self.questions(board, hurry=hurry):
                check_limits(self, count, lambda limit: question(limit=limit))

    def test_the_limit_of_a_board_with_a_race(self):
        for board in (BUZZER, RIVALS):
            slow_board = slow.Slow(board)
            count = slow.agree_count(slow_board, slow_board, 0)
            for question in self.questions(board):
                with self.assertRaises(NotDeterminate):
                    question(limit=count)
                with self.assertRaises(TooMany):
                    question(limit=count - 1)

    def test_what_is_not_given(self):
        check_defaults(self, show_at_rest, how_to, way_back)


class TestKeeping(unittest.TestCase):
    def test_the_lists_stay_as_they_are(self):
        switching, on = ["s", "t", "s"], ["x", "x"]
        show_at_rest(LATCH, switching)
        way_back(LATCH, switching)
        how_to(LATCH, on)
        self.assertEqual((switching, on), (["s", "t", "s"], ["x", "x"]))

    def test_answers_are_new_lists(self):
        switching = ["s"]
        found = way_back(LATCH, switching)
        found.clear()
        self.assertEqual(way_back(LATCH, switching), ["s", "t", "t"])
        back = way_back(LATCH, [])
        back.append("changed")
        self.assertEqual(way_back(LATCH, []), [])
        how_to(LATCH, ["x"]).clear()
        self.assertEqual(how_to(LATCH, ["x"]), ["s"])

    def test_boards_do_not_change(self):
        before = parts_of(LATCH)
        how_to(LATCH, ["x"])
        way_back(LATCH, ["s"])
        self.assertEqual(parts_of(LATCH), before)

    def test_what_is_found_can_be_played(self):
        board = small_board("abc", "s", ["qa", "rb"], ["xc"], ["pas", "pbq", "pcr"])
        self.assertEqual(how_to(board, ["x"]), ["s"])
        found = run(board, [("hand", "s"), ("relay", "q"), ("relay", "r")])
        self.assertTrue(found.at_rest)
        self.assertEqual(show_at_rest(board, ["s"]), found.show)

    def test_the_example(self):
        contacts = [
            ("plus", "c", "on", "make", "both"),
            ("plus", "h", "r", "make", "both"),
            ("h", "c", "off", "break", "both"),
        ]
        latch = Board(
            nodes=["plus", "minus", "c", "h"],
            switches=["on", "off"],
            relays=[("r", "c", "minus")],
            lamps=[("lamp", "c", "minus")],
            contacts=contacts,
        )
        found = (how_to(latch, ["lamp"]), how_to(latch, []), way_back(latch, ["on"]))
        self.assertEqual(found, (["on"], [], ["on", "off", "off"]))


if __name__ == "__main__":
    unittest.main()
