import unittest

from leverhouse import search
from leverhouse.boards import Board
from leverhouse.errors import TooMany, UnknownName
from leverhouse.plays import run, walk
from leverhouse.search import all_states
from leverhouse.shows import Flash, all_shows, first_flash, first_short, flashes, never
from tests import naive, slow
from tests.checks import check_defaults, check_limits
from tests.samples import busy_board, deep_board, odd_board, parts_of, small_board, small_play

HURRIES = (0, 1, 2, 8)

# The lamp x follows the switch, y follows the relay; z is where both are on.
BOARD = small_board("abc", "st", ["ra"], ["xa", "yb", "zc"], ["pas", "pbr", "bcs"])
# With s on, x is live until the relay is up.
DROP = small_board("ab", "s", ["ra"], ["xb"], ["pas", "ab!r"])
# With s on, x is dark until the relay is up, and it was live before.
DIP = small_board("ab", "s", ["ra"], ["xb"], ["pas", "pb!s", "pbr"])
# Two relays in a row; x is live while one of them alone is up.
ROW = small_board("abcd", "s", ["qa", "rb"], ["xc"], ["pas", "pbq", "pdq", "dc!r"])
# Both switches on blow the fuse.
FUSE = small_board("ab", "st", [], ["xa"], ["pas", "pbs", "bmt"])
BUZZER = small_board("a", "s", ["ra"], ["xa"], ["pa!r"])
BLOWN = small_board("a", "s", [], ["xa"], ["pm-"])


def many_boards():
    for seed in range(30):
        yield odd_board(seed, 2, 3)
        yield busy_board(seed)


def flashing_boards():
    for seed in range(60):
        yield deep_board(seed)
        yield deep_board(seed, 2, 3)


def lamp_names(board):
    return [lamp[0] for lamp in board.lamps]


def wishes(names):
    """Lists of lamps to be live and not to be live."""
    yield [], []
    for name in names:
        yield [name], []
        yield [], [name]
        yield [name], [name]
    yield names, []
    yield [], names
    if len(names) > 1:
        yield names[:1], names[1:]
        yield names[1:], names[:1]


class TestNever(unittest.TestCase):
    def test_by_hand(self):
        self.assertEqual(never(BOARD, on=["x"]), small_play("S"))
        self.assertEqual(never(BOARD, on=["y"]), small_play("S r"))
        self.assertEqual(never(BOARD, on=["z"]), small_play("S r"))
        self.assertEqual(never(BOARD, on=["y"], off=["x"]), small_play("S r S"))
        self.assertEqual(never(BOARD, on=["x", "z"], off=[]), small_play("S r"))
        self.assertEqual(never(BOARD, on=["x"], off=["y", "z"]), small_play("S"))

    def test_at_rest(self):
        self.assertIsNone(never(BOARD, on=["y"], off=["x"], rest=True))
        self.assertIsNone(never(BOARD, on=["x"], off=["y"], rest=True))
        self.assertEqual(never(BOARD, on=["x"], rest=True), small_play("S r"))
        self.assertEqual(never(BOARD, off=["x"], rest=True), [])
        self.assertEqual(never(BOARD, on=["y"], off=["x"], rest=False), small_play("S r S"))

    def test_no_lamps(self):
        self.assertEqual(never(BOARD), [])
        self.assertEqual(never(BOARD, rest=True), [])
        self.assertEqual(never(BOARD, on=[], off=()), [])
        # In the first state of this board the relays are due.
        board = small_board("a", "s", ["qa", "ra"], ["xa"], ["pa-"])
        self.assertEqual(never(board), [])
        self.assertEqual(never(board, rest=True), small_play("q r"))
        self.assertIsNone(never(BUZZER, rest=True))

    def test_the_first_state(self):
        self.assertEqual(never(BOARD, off=["x", "y", "z"]), [])
        self.assertEqual(never(BUZZER, on=["x"]), [])
        self.assertEqual(never(DIP, on=["x"], rest=True), [])

    def test_a_name_twice(self):
        self.assertEqual(never(BOARD, on=["y", "y"], off=["x", "x"]), small_play("S r S"))

    def test_a_name_in_both_lists(self):
        for rest in (False, True):
            self.assertIsNone(never(BOARD, on=["x"], off=["x"], rest=rest))
            self.assertIsNone(never(BOARD, on=["y", "x"], off=["z", "x"], rest=rest))

    def test_tuples(self):
        self.assertEqual(never(BOARD, on=("y",), off=("x",)), small_play("S r S"))
        self.assertEqual(never(BOARD, on=("y",), off=["x"]), small_play("S r S"))
        self.assertEqual(never(BOARD, on=["y"], off=("x", "x")), small_play("S r S"))

    def test_the_lists_stay_as_they_are(self):
        lit, dark = ["y", "x", "y"], ["z"]
        never(BOARD, on=lit, off=dark)
        self.assertEqual((lit, dark), (["y", "x", "y"], ["z"]))

    def test_no_lamp_is_live_with_a_blown_fuse(self):
        self.assertIsNone(never(BLOWN, on=["x"]))
        self.assertEqual(never(BLOWN, off=["x"], rest=True), [])
        self.assertEqual(never(FUSE, on=["x"]), small_play("S"))

    def test_in_several_hurries(self):
        # The relay holds itself, if it is given the time to come up.
        board = small_board("ab", "s", ["ra"], ["xa", "yb"], ["pas", "par", "pbs"])
        self.assertEqual(never(board, on=["x"], off=["y"], rest=True), small_play("S r S"))
        self.assertEqual(never(board, on=["x"], off=["y"], rest=True, hurry=1), small_play("S r S"))
        late = small_board("abc", "st", ["ra"], ["xc"], ["pas", "ab!r", "bct"])
        self.assertEqual(never(late, on=["x"]), small_play("T S"))
        self.assertEqual(never(late, on=["x"], hurry=1), small_play("S T"))
        self.assertEqual(never(late, on=["x"], hurry=8), small_play("S T"))

    def test_on_many_boards(self):
        answers = {True: 0, False: 0}
        for board in many_boards():
            slow_board = slow.Slow(board)
            for hurry in (0, 1, 8):
                reached = slow_board.reached([slow_board.start], hurry)
                for on, off in wishes(lamp_names(board)):
                    for rest in (False, True):
                        expected = None
                        for state, play in reached.items():
                            lit = slow_board.show(state)[0]
                            fits = set(on) <= set(lit) and not set(off) & set(lit)
                            if expected is None and fits and (slow_board.rests(state) or not rest):
                                expected = play
                        found = never(board, on=on, off=off, rest=rest, hurry=hurry)
                        self.assertEqual(found, expected)
                        answers[found is None] += 1
        self.assertGreater(min(answers.values()), 200)

    def test_unknown_names(self):
        for on, off, name in (
            (["w"], [], "w"),
            ([], ["w"], "w"),
            (["x", "w", "v"], ["u"], "w"),
            (["x", "x"], ["y", "v", "w"], "v"),
            (["w"], ["v"], "w"),
            (("x", "s"), (), "s"),
            ([], ("r",), "r"),
            (["a"], ["a"], "a"),
            (["x", ""], ["x"], ""),
        ):
            for limit in (1, 3000):
                for rest in (False, True):
                    with self.assertRaises(UnknownName) as caught:
                        never(BOARD, on=on, off=off, rest=rest, limit=limit)
                    self.assertEqual(caught.exception.name, name)

    def test_a_lamp_with_the_name_of_a_mover(self):
        board = small_board("a", "s", [], ["sa"], ["pas"])
        self.assertEqual(never(board, on=["s"]), small_play("S"))

    def test_the_limit(self):
        for board in (BOARD, DROP, FUSE, BLOWN, BUZZER, *list(many_boards())[:20]):
            for hurry in (0, 8):
                count = len(all_states(board, hurry=hurry))
                name = board.lamps[0][0]
                # The first one is fulfilled by the first state, the last one by none.
                for on, off in (([], []), ([name], []), ([name], [name])):
                    check_limits(
                        self, count, lambda limit: never(board, on=on, off=off, hurry=hurry, limit=limit)
                    )

    def test_the_play_is_a_new_list(self):
        never(BOARD, on=["y"]).clear()
        self.assertEqual(never(BOARD, on=["y"]), small_play("S r"))
        never(BOARD).append("changed")
        self.assertEqual(never(BOARD), [])

    def test_the_example(self):
        contact = ("p", "a", "s", "make", "both")
        lamps = [("x", "a", "m"), ("y", "m", "a")]
        board = Board(nodes=["p", "m", "a"], switches=["s"], lamps=lamps, contacts=[contact])
        self.assertEqual(never(board, on=["x"]), [("hand", "s")])
        self.assertIsNone(never(board, on=["x"], off=["y"]))


class TestAllShows(unittest.TestCase):
    def test_by_hand(self):
        expected = [
            (((), False), []),
            ((("x",), False), small_play("S")),
            ((("x", "y", "z"), False), small_play("S r")),
            ((("y",), False), small_play("S r S")),
        ]
        self.assertEqual(all_shows(BOARD), expected)
        self.assertEqual(all_shows(BOARD, rest=False), expected)
        self.assertEqual(all_shows(BOARD, rest=True), [expected[0], expected[2]])

    def test_the_fuse(self):
        expected = [
            (((), False), []),
            ((("x",), False), small_play("S")),
            (((), True), small_play("S T")),
        ]
        self.assertEqual(all_shows(FUSE), expected)
        self.assertEqual(all_shows(FUSE, rest=True), expected)
        self.assertEqual(all_shows(BLOWN), [(((), True), [])])

    def test_no_state_at_rest(self):
        self.assertEqual(all_shows(BUZZER, rest=True), [])
        self.assertEqual(all_shows(BUZZER), [((("x",), False), []), (((), False), small_play("r"))])

    def test_the_first_play_to_a_state_at_rest(self):
        # What is shown on the way, too, is shown at rest behind a longer play.
        board = small_board("a", "s", ["ra"], ["xa"], ["pas"])
        self.assertEqual(all_shows(board)[1], ((("x",), False), small_play("S")))
        self.assertEqual(all_shows(board, rest=True)[1], ((("x",), False), small_play("S r")))

    def test_on_many_boards(self):
        for board in many_boards():
            slow_board = slow.Slow(board)
            for hurry in HURRIES:
                for rest in (False, True):
                    expected = {}
                    for state, play in slow_board.reached([slow_board.start], hurry).items():
                        if slow_board.rests(state) or not rest:
                            expected.setdefault(slow_board.show(state), play)
                    found = all_shows(board, rest=rest, hurry=hurry)
                    self.assertEqual(found, list(expected.items()))

    def test_the_plays_lead_to_the_shows(self):
        for board in many_boards():
            for rest in (False, True):
                for shown, play in all_shows(board, rest=rest, hurry=1):
                    found = run(board, play, hurry=1)
                    self.assertEqual(found.show, shown)
                    self.assertTrue(found.at_rest or not rest)

    def test_the_limit(self):
        for board in (BOARD, DROP, FUSE, BLOWN, BUZZER, *list(many_boards())[:20]):
            for hurry in (0, 8):
                count = len(all_states(board, hurry=hurry))
                for rest in (False, True):
                    check_limits(self, count, lambda limit: all_shows(board, rest=rest, hurry=hurry, limit=limit))

    def test_the_list_is_a_new_one(self):
        kept = all_shows(BOARD)
        changed = all_shows(BOARD)
        for _, play in changed:
            play.append("changed")
        changed.clear()
        self.assertEqual(all_shows(BOARD), kept)
        self.assertIsInstance(kept[0], tuple)


class TestFirstShort(unittest.TestCase):
    def test_the_first_state(self):
        self.assertEqual(first_short(BLOWN), [])
        self.assertEqual(first_short(BLOWN, hurry=8), [])

    def test_a_later_state(self):
        self.assertEqual(first_short(FUSE), small_play("S T"))
        # There is a short for a moment, while one of the relays alone is up.
        board = small_board("ab", "s", ["qa", "ra"], ["xa"], ["pas", "pbq", "bm!r"])
        self.assertEqual(first_short(board), small_play("S q"))
        board = small_board("ab", "s", ["ra"], ["xa"], ["pas", "pbr", "bm!s"])
        self.assertEqual(first_short(board), small_play("S r S"))

    def test_in_several_hurries(self):
        board = small_board("ab", "st", ["ra"], ["xa"], ["pas", "ab!r", "bmt"])
        self.assertEqual(first_short(board), small_play("T S"))
        for hurry in (1, 2, 8):
            self.assertEqual(first_short(board, hurry=hurry), small_play("S T"))
        # Both relays hold themselves; there is a short if q alone is up with s off.
        contacts = ["pas", "pbs", "paq", "pbr", "pdq", "de!r", "em!s"]
        board = small_board("abde", "s", ["qa", "rb"], ["xa"], contacts)
        self.assertIsNone(first_short(board))
        for hurry in (1, 2, 8):
            self.assertEqual(first_short(board, hurry=hurry), small_play("S q S"))

    def test_no_short(self):
        for board in (BOARD, DROP, BUZZER, small_board()):
            for hurry in HURRIES:
                self.assertIsNone(first_short(board, hurry=hurry))

    def test_on_many_boards(self):
        answers = {True: 0, False: 0}
        for board in many_boards():
            slow_board = slow.Slow(board)
            for hurry in HURRIES:
                reached = slow_board.reached([slow_board.start], hurry)
                plays = [play for state, play in reached.items() if state[1]]
                found = first_short(board, hurry=hurry)
                self.assertEqual(found, plays[0] if plays else None)
                answers[found is None] += 1
                if found is not None:
                    fuses = [blown for _, blown in walk(board, found, hurry=hurry)]
                    self.assertEqual(fuses, [False] * len(found) + [True])
        self.assertGreater(min(answers.values()), 20)

    def test_the_limit(self):
        for board in (BOARD, FUSE, BLOWN, *list(many_boards())[:20]):
            for hurry in (0, 8):
                count = len(all_states(board, hurry=hurry))
                check_limits(self, count, lambda limit: first_short(board, hurry=hurry, limit=limit))

    def test_the_play_is_a_new_list(self):
        first_short(FUSE).clear()
        self.assertEqual(first_short(FUSE), small_play("S T"))


class TestFlash(unittest.TestCase):
    def test_fields(self):
        found = Flash("x", small_play("S r"), 0)
        self.assertEqual((found.lamp, found.play, found.hand), ("x", small_play("S r"), 0))
        found = Flash(hand=7, play=[], lamp="y")
        self.assertEqual((found.lamp, found.play, found.hand), ("y", [], 7))

    def test_the_play_is_copied(self):
        play = small_play("S r")
        found = Flash("x", play, 0)
        play.append("changed")
        self.assertEqual(found.play, small_play("S r"))


class TestFirstFlash(unittest.TestCase):
    def check(self, board, lamp, play, hand, **given):
        found = first_flash(board, lamp, **given)
        self.assertIsInstance(found, Flash)
        self.assertEqual((found.lamp, found.play, found.hand), (lamp, small_play(play), hand))

    def test_live_for_a_while(self):
        self.check(DROP, "x", "S r", 0)

    def test_dark_for_a_while(self):
        self.check(DIP, "x", "S r", 0)

    def test_two_relays(self):
        self.check(ROW, "x", "S q r", 0)

    def test_a_lamp_that_ends_otherwise_than_it_began(self):
        for board in (BOARD, small_board("a", "s", ["ra"], ["xa"], ["pas"])):
            self.assertIsNone(first_flash(board, "x"))
        # The lamp is live behind the hand and stays so.
        board = small_board("ab", "s", ["ra"], ["xb"], ["pas", "pbs", "pbr"])
        self.assertIsNone(first_flash(board, "x"))
        # It goes out, is live while q alone is up, and goes out for good; before the part it was live.
        board = small_board("abcd", "s", ["qa", "rb"], ["xc"], ["pas", "pbq", "pc!s", "pdq", "dc!r"])
        self.assertIsNone(first_flash(board, "x"))

    def test_a_part_with_one_move(self):
        # The lamp changes with each hand, and no relay moves.
        board = small_board("a", "st", [], ["xa"], ["pas"])
        self.assertIsNone(first_flash(board, "x"))
        self.assertIsNone(first_flash(FUSE, "x"))

    def test_a_part_that_is_not_whole(self):
        # With s on the lamp goes on and off, and the board never rests.
        board = small_board("ab", "s", ["rb"], ["xb"], ["pas", "ab!r"])
        self.assertIsNone(first_flash(board, "x"))
        # It never rests either, and no hand moves.
        self.assertIsNone(first_flash(BUZZER, "x"))

    def test_no_part_before_the_first_hand(self):
        # The lamp is live in the first state and dark as soon as the relay is up.
        board = small_board("ab", "s", ["ra"], ["xb"], ["pa-", "ab!r"])
        self.assertIsNone(first_flash(board, "x"))
        # A relay has to come up before the first hand, too; then the switch makes the lamp flash.
        board = small_board("abc", "s", ["qc", "ra"], ["xb"], ["pc-", "pas", "ab!r"])
        self.check(board, "x", "q S r", 1)

    def test_a_later_part_than_the_first_one(self):
        # The lamp flashes when the switch is opened.
        board = small_board("ab", "s", ["ra"], ["xb"], ["pas", "pbr"])
        self.assertIsNone(first_flash(board, "x"))
        board = small_board("abc", "s", ["ra"], ["xb"], ["pas", "pcr", "cb!s"])
        self.check(board, "x", "S r S r", 2)
        # The lamp flashes only with t on; t has to be moved first.
        board = small_board("abc", "st", ["ra"], ["xb"], ["pas", "ac!r", "cbt"])
        self.check(board, "x", "T S r", 1)

    def test_the_way_of_the_relays_matters(self):
        # The lamp flashes if q is up before r, and not if r is up before q.
        board = small_board("abc", "s", ["qa", "ra"], ["xc"], ["pas", "pbq", "bc!r"])
        self.check(board, "x", "S q r", 0)
        board = small_board("abc", "s", ["qa", "ra"], ["xc"], ["pas", "pbr", "bc!q"])
        self.check(board, "x", "S r q", 0)

    def test_a_part_that_ends_with_a_flash_of_many_relays(self):
        names = "abcdef"
        board = small_board("no", "s", [f"{name}n" for name in names], ["xo"], ["pns", "no!f"])
        self.check(board, "x", "S a b c d e f", 0)

    def test_a_lamp_that_is_dark_and_live_again_in_one_state(self):
        # The lamp is dark for one state in the middle of the part.
        board = small_board("abcd", "s", ["qa", "rb"], ["xc"], ["pas", "pbq", "pc!q", "pcr"])
        self.check(board, "x", "S q r", 0)

    def test_a_blown_fuse(self):
        # The short comes behind the relay, so that the lamp is live only for a while.
        board = small_board("ab", "s", ["ra"], ["xb"], ["pas", "pbs", "pmr"])
        self.check(board, "x", "S r r", 0)

    def test_several_lamps(self):
        board = small_board("abc", "s", ["ra"], ["wa", "xb", "yc"], ["pas", "ab!r", "pc!s", "pcr"])
        self.assertIsNone(first_flash(board, "w"))
        self.check(board, "x", "S r", 0)
        self.check(board, "y", "S r", 0)

    def test_on_many_boards(self):
        parts = {}
        for board in [*flashing_boards(), *many_boards()]:
            slow_board = slow.Slow(board)
            for lamp in lamp_names(board):
                expected = slow.first_flash(slow_board, lamp)
                found = first_flash(board, lamp)
                if expected is None:
                    self.assertIsNone(found)
                    continue
                self.assertEqual((found.lamp, found.play, found.hand), (lamp, *expected))
                hands = [move for move in found.play if move[0] == "hand"]
                parts[len(hands)] = True
        self.assertEqual(set(parts), {1, 2, 3})

    def test_as_plays_are_listed(self):
        seen = 0
        for seed in range(60):
            board = deep_board(seed)
            slow_board = slow.Slow(board)
            for lamp in lamp_names(board):
                # In the order of point 29, so that the first one counts.
                flashing = [
                    play
                    for play, _ in naive.plays_by_length(board, 0, 7)
                    if play and slow.case_of(slow_board, lamp, play)[2]
                ]
                found = first_flash(board, lamp)
                if flashing:
                    seen += 1
                    self.assertEqual(found.play, flashing[0])
                elif found is not None:
                    self.assertGreater(len(found.play), 7)
        self.assertGreater(seen, 5)

    def test_none_means_no_flash_in_any_part(self):
        for seed in range(20):
            board = deep_board(seed)
            slow_board = slow.Slow(board)
            for lamp in lamp_names(board):
                if first_flash(board, lamp) is None:
                    for play, _ in naive.plays_by_length(board, 0, 6):
                        self.assertFalse(slow.case_of(slow_board, lamp, play)[2])

    def test_unknown_names(self):
        for name in ("w", "s", "r", "a", "p", ""):
            for limit in (1, 3000):
                with self.assertRaises(UnknownName) as caught:
                    first_flash(BOARD, name, limit=limit)
                self.assertEqual(caught.exception.name, name)

    def test_the_play_is_a_new_list(self):
        first_flash(DROP, "x").play.clear()
        self.check(DROP, "x", "S r", 0)

    def test_the_example(self):
        first = ("p", "a", "s", "make", "both")
        board = Board(
            nodes=["p", "m", "a", "b"],
            switches=["s"],
            relays=[("r", "a", "m")],
            lamps=[("x", "b", "m")],
            contacts=[first, ("a", "b", "r", "break", "both")],
        )
        flash = first_flash(board, "x")
        self.assertEqual((flash.play, flash.hand), ([("hand", "s"), ("relay", "r")], 0))


class TestCases(unittest.TestCase):
    def test_by_hand(self):
        # Without relays each state is one case.
        check_limits(self, 2, lambda limit: first_flash(small_board("a", "s", [], ["xa"], ["pas"]), "x", limit=limit))
        # Four states: at rest with s off or on, and in the part that each hand begins.
        board = small_board("a", "s", ["ra"], ["xa"], ["pas"])
        check_limits(self, 4, lambda limit: first_flash(board, "x", limit=limit))
        # The case in which the lamp has just flashed is one more, and no move is made from it.
        self.assertIsNotNone(first_flash(DROP, "x"))
        check_limits(self, 3, lambda limit: first_flash(DROP, "x", limit=limit))

    def test_one_state_in_several_cases(self):
        more = 0
        for board in [*flashing_boards(), *many_boards()]:
            slow_board = slow.Slow(board)
            for lamp in lamp_names(board):
                count = len(slow.cases(slow_board, lamp))
                more += count > len(all_states(board))
                check_limits(self, count, lambda limit: first_flash(board, lamp, limit=limit))
        self.assertGreater(more, 10)

    def test_what_is_not_given(self):
        check_defaults(self, never, all_shows, first_short, first_flash, flashes)
        self.assertEqual(search.LIMIT, 3000)


class TestFlashes(unittest.TestCase):
    def test_by_hand(self):
        board = small_board("abc", "s", ["ra"], ["yc", "wa", "xb"], ["pas", "ab!r", "pc!s", "pcr"])
        found = flashes(board)
        self.assertEqual([flash and flash.lamp for flash in found], ["y", None, "x"])
        self.assertEqual([flash.play for flash in found if flash], [small_play("S r")] * 2)
        self.assertEqual(flashes(BOARD), [None, None, None])

    def test_on_many_boards(self):
        for board in flashing_boards():
            found = flashes(board)
            alone = [first_flash(board, name) for name in lamp_names(board)]
            self.assertEqual(len(found), len(alone))
            for one, other in zip(found, alone):
                self.assertEqual(one is None, other is None)
                if one is not None:
                    self.assertEqual((one.lamp, one.play, one.hand), (other.lamp, other.play, other.hand))

    def test_the_limit(self):
        several = 0
        for board in flashing_boards():
            slow_board = slow.Slow(board)
            counts = [len(slow.cases(slow_board, name)) for name in lamp_names(board)]
            check_limits(self, max(counts), lambda limit: flashes(board, limit=limit))
            several += counts[0] != counts[1]
        self.assertGreater(several, 5)

    def test_the_list_is_a_new_one(self):
        flashes(DROP).clear()
        self.assertEqual(len(flashes(DROP)), 1)

    def test_boards_do_not_change(self):
        before = parts_of(DROP)
        flashes(DROP)
        never(DROP, on=["x"], hurry=1)
        all_shows(DROP)
        first_short(DROP)
        self.assertEqual(parts_of(DROP), before)

    def test_too_many(self):
        with self.assertRaises(TooMany) as caught:
            flashes(BOARD, limit=2)
        self.assertEqual(caught.exception.limit, 2)


if __name__ == "__main__":
    unittest.main()
