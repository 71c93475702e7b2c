import unittest

from leverhouse.agree import Unsettled, agree
from leverhouse.boards import Board
from leverhouse.changes import LateParting, LateRound, change, changed_state
from leverhouse.errors import DifferentFaces, TooMany
from leverhouse.pairs import all_pairs
from leverhouse.plays import check_state, is_rest, run, step
from leverhouse.races import is_determinate
from leverhouse.search import all_states, explore_from
from leverhouse.settling import Longest, round_from, settles
from tests import naive, slow
from tests.checks import check_defaults, check_limits, told
from tests.samples import busy_board, deep_board, odd_board, parts_of, small_board, small_play, twin_of

LIT, DARK = (("x",), False), ((), False)

# A lamp at a switch, and a board on which it is always dark.
LAMP = small_board("a", "s", [], ["xa"], ["pas"])
NONE = small_board("a", "s", [], ["xa"], [])
# The relay r follows the switch.
PLAIN = small_board("ab", "s", ["rb"], ["xa"], ["pas", "pbs"])
# The relay never comes up by itself; one that is up holds itself and feeds the lamp.
HELD = small_board("ab", "s", ["rb"], ["xa"], ["pas", "pbr", "par"])
BUZZER = small_board("ab", "s", ["rb"], ["xa"], ["pas", "ab!r"])
EARLY_BUZZER = small_board("ab", "s", ["rb"], ["xa"], ["pas", "pb!r"])
# The relay holds itself, if it is given the time to come up.
HASTY = small_board("a", "s", ["ra"], ["xa"], ["pas", "par"])


def couples():
    """Boards of the same face; some of them differ in a contact, some in all but the face."""
    for seed in range(30):
        for board in (odd_board(seed, 2, 3), busy_board(seed, 2, 2), deep_board(seed, 2, 2)):
            yield board, board
            yield board, twin_of(board, seed)
        yield busy_board(seed, 2, 2), busy_board(seed + 1000, 2, 2)
        yield deep_board(seed), deep_board(seed + 1000)


def state_of(board, names, blown=False):
    """The state of the board in which the movers of this string are on."""
    return (tuple(name in names for name in board.movers), blown)


class TestClasses(unittest.TestCase):
    def test_late_round(self):
        found = LateRound(small_play("S"), small_play("r"), small_play("q q"))
        self.assertEqual((found.before, found.play), (small_play("S"), small_play("r")))
        self.assertEqual(found.moves, small_play("q q"))
        found = LateRound(moves=[], play=small_play("S"), before=[])
        self.assertEqual((found.before, found.play, found.moves), ([], small_play("S"), []))

    def test_late_parting(self):
        found = LateParting(small_play("S"), small_play("T"), small_play("r"), (LIT, DARK))
        self.assertEqual((found.before, found.first), (small_play("S"), small_play("T")))
        self.assertEqual((found.second, found.shows), (small_play("r"), (LIT, DARK)))
        found = LateParting(shows=(DARK, LIT), second=small_play("S"), first=[], before=small_play("q"))
        self.assertEqual((found.before, found.first), (small_play("q"), []))
        self.assertEqual((found.second, found.shows), (small_play("S"), (DARK, LIT)))

    def test_lists_are_copied(self):
        before, first, second = small_play("S"), small_play("T"), small_play("r")
        late_round, late_parting = LateRound(before, first, second), LateParting(before, first, second, (LIT, DARK))
        for play in (before, first, second):
            play.append("changed")
        self.assertEqual((late_round.before, late_round.play), (small_play("S"), small_play("T")))
        self.assertEqual(late_round.moves, small_play("r"))
        self.assertEqual((late_parting.before, late_parting.first), (small_play("S"), small_play("T")))
        self.assertEqual(late_parting.second, small_play("r"))


class TestChangedState(unittest.TestCase):
    # The relays of the two boards have some names in common, in another order.
    ONE = small_board("abc", "st", ["qa", "rb", "za"], ["xa"], [])
    OTHER = small_board("abc", "st", ["ka", "za", "qb"], ["xa"], [])

    def test_relays_of_the_same_name(self):
        for names, expected in (
            ("", ""),
            ("s", "s"),
            ("t", "t"),
            ("q", "q"),
            ("z", "z"),
            ("stqz", "stqz"),
            ("sz", "sz"),
            ("tq", "tq"),
        ):
            state = changed_state(self.ONE, self.OTHER, state_of(self.ONE, names))
            self.assertEqual(state, state_of(self.OTHER, expected))

    def test_relays_that_one_board_alone_has(self):
        # r is lost, and k begins down.
        for names, expected in (("r", ""), ("sr", "s"), ("qr", "q"), ("stqrz", "stqz")):
            state = changed_state(self.ONE, self.OTHER, state_of(self.ONE, names))
            self.assertEqual(state, state_of(self.OTHER, expected))
        for names, expected in (("k", ""), ("skq", "sq"), ("stkzq", "stzq")):
            state = changed_state(self.OTHER, self.ONE, state_of(self.OTHER, names))
            self.assertEqual(state, state_of(self.ONE, expected))

    def test_boards_without_relays(self):
        bare = small_board("a", "st")
        self.assertEqual(changed_state(self.ONE, bare, state_of(self.ONE, "sqrz")), ((True, False), False))
        self.assertEqual(changed_state(bare, self.ONE, ((False, True), False)), state_of(self.ONE, "t"))
        nothing = small_board()
        self.assertEqual(changed_state(nothing, nothing, ((), False)), ((), False))
        self.assertEqual(changed_state(nothing, nothing, ((), True)), ((), True))

    def test_a_blown_fuse(self):
        for names in ("", "sq", "stqrz"):
            state = changed_state(self.ONE, self.OTHER, state_of(self.ONE, names, True))
            self.assertEqual(state, state_of(self.OTHER, names.replace("r", ""), True))

    def test_a_short_of_the_other_board_alone(self):
        shorted = small_board("abc", "st", ["ka", "za", "qb"], ["xa"], ["pas", "amq"])
        self.assertEqual(changed_state(self.ONE, shorted, state_of(self.ONE, "sq")), state_of(shorted, "sq", True))
        self.assertEqual(changed_state(self.ONE, shorted, state_of(self.ONE, "s")), state_of(shorted, "s"))
        self.assertEqual(changed_state(self.ONE, shorted, state_of(self.ONE, "q")), state_of(shorted, "q"))
        # A fuse that is blown stays so, although the other board has no short.
        state = changed_state(shorted, self.ONE, state_of(shorted, "sq", True))
        self.assertEqual(state, state_of(self.ONE, "sq", True))
        # A relay that goes down because the one board does not have it can bring the short.
        shorted = small_board("a", "s", ["ka"], ["xa"], ["pm!k"])
        one = small_board("a", "s", ["qa"], ["xa"], [])
        self.assertEqual(changed_state(one, shorted, state_of(one, "q")), state_of(shorted, "", True))

    def test_it_need_not_be_at_rest(self):
        state = changed_state(HELD, PLAIN, state_of(HELD, "r"))
        self.assertEqual(state, state_of(PLAIN, "r"))
        self.assertFalse(is_rest(PLAIN, state))

    def test_it_does_not_look_at_the_lamps(self):
        other = small_board("a", "s", ["ra"], ["ya", "za"], ["pas"])
        self.assertEqual(changed_state(HASTY, other, state_of(HASTY, "sr")), state_of(other, "sr"))

    def test_on_many_boards(self):
        blown = 0
        for one, other in couples():
            for state in naive.states(one):
                found = changed_state(one, other, state)
                self.assertEqual(found, slow.changed_state(one, other, state))
                check_state(other, found)
                blown += found[1] != state[1]
        self.assertGreater(blown, 50)

    def test_a_board_by_itself(self):
        for seed in range(20):
            board = busy_board(seed)
            for state in naive.states(board):
                self.assertEqual(changed_state(board, board, state), state)


class TestChange(unittest.TestCase):
    def check(self, one, other, expected, **given):
        found = change(one, other, **given)
        self.assertEqual(told(found), expected)
        return found

    def test_nothing_is_shown(self):
        self.check(LAMP, LAMP, None)
        self.check(PLAIN, LAMP, None)
        self.check(LAMP, PLAIN, None)
        self.check(PLAIN, PLAIN, None)
        for hurry in range(9):
            self.check(LAMP, PLAIN, None, hurry=hurry)

    def test_boards_without_relays_by_themselves(self):
        for board in (LAMP, NONE, small_board(), small_board("a", "st", [], ["xa"], ["pas", "pmt"])):
            for hurry in (0, 1, 8):
                self.check(board, board, None, hurry=hurry)

    def test_in_the_first_moment(self):
        s = small_play("S")
        self.check(LAMP, NONE, ([], s, s, (LIT, DARK)))
        self.check(NONE, LAMP, ([], s, s, (DARK, LIT)))

    def test_empty_plays(self):
        wire = small_board("a", "s", [], ["xa"], ["pa-"])
        self.check(wire, NONE, ([], [], [], (LIT, DARK)))
        self.check(NONE, wire, ([], [], [], (DARK, LIT)))

    def test_in_a_later_moment(self):
        # With s off from the start, nothing is ever on; the relay has to be up at the change.
        found = self.check(PLAIN, HELD, (small_play("S r"), small_play("S r"), small_play("S"), (DARK, LIT)))
        self.assertIsInstance(found, LateParting)
        # The two boards agree all the same.
        self.assertIsNone(agree(PLAIN, HELD))

    def test_a_play_before_and_empty_plays_behind(self):
        # The relay of the one board comes up with s, and the lamp of the other one is dark then.
        other = small_board("abc", "s", ["rb"], ["xa"], ["pcs", "ca!r", "pbr"])
        self.check(PLAIN, other, (small_play("S r"), [], [], (LIT, DARK)))
        self.assertIsNone(agree(PLAIN, other))

    def test_a_late_round(self):
        # The relay z buzzes as soon as r is up, and on its own r never is.
        other = small_board("abc", "s", ["rb", "zc"], ["xa"], ["pas", "pbr", "bc!z"])
        self.assertIsNone(agree(PLAIN, other))
        found = self.check(PLAIN, other, (small_play("S r"), [], small_play("z z")))
        self.assertIsInstance(found, LateRound)

    def test_a_late_round_behind_a_play(self):
        # It buzzes with s off only.
        other = small_board("abcd", "s", ["rb", "zc"], ["xa"], ["pas", "pbr", "bd!s", "dc!z"])
        self.assertIsNone(agree(PLAIN, other))
        self.check(PLAIN, other, (small_play("S r"), small_play("S"), small_play("z z")))
        # Another relay has to come up before.
        other = small_board("abcde", "s", ["rb", "kd", "zc"], ["xa"], ["pas", "pbr", "bd-", "pek", "ec!z"])
        self.check(PLAIN, other, (small_play("S r"), small_play("k"), small_play("z z")))

    def test_a_round_from_the_first_moment(self):
        s = small_play("S")
        self.check(LAMP, BUZZER, ([], s, small_play("r r")))
        self.check(LAMP, EARLY_BUZZER, ([], [], small_play("r r")))

    def test_the_one_board_does_not_settle(self):
        found = self.check(BUZZER, LAMP, ("one", small_play("S"), small_play("r r")))
        self.assertIsInstance(found, Unsettled)
        self.check(EARLY_BUZZER, LAMP, ("one", [], small_play("r r")))
        self.check(BUZZER, BUZZER, ("one", small_play("S"), small_play("r r")))
        # A change of this board is shown before it buzzes.
        wire = small_board("a", "s", [], ["xa"], ["pa-"])
        self.check(BUZZER, wire, ("one", small_play("S"), small_play("r r")))
        self.check(BUZZER, EARLY_BUZZER, ("one", small_play("S"), small_play("r r")))

    def test_no_moments(self):
        # The one board is never at rest.
        self.assertEqual(len(all_states(EARLY_BUZZER)), 2)
        self.check(EARLY_BUZZER, EARLY_BUZZER, ("one", [], small_play("r r")))

    def test_a_round_comes_before_a_parting_at_one_moment(self):
        # The lamp is another one at once, and the board buzzes with s on.
        other = small_board("abc", "s", ["rb"], ["xa"], ["pa-", "pcs", "cb!r"])
        self.assertIsNotNone(agree(LAMP, other.without_contact(1)))
        self.check(LAMP, other, ([], small_play("S"), small_play("r r")))
        self.check(LAMP, other.without_contact(1), ([], [], [], (DARK, LIT)))

    def test_an_earlier_moment_comes_before_a_later_one(self):
        # At the first moment a parting follows, but no round; at a later one there is a round.
        other = small_board("abc", "s", ["rb", "zc"], ["xa"], ["pbr", "bc!z"])
        self.check(PLAIN, other, ([], small_play("S r"), small_play("S"), (LIT, DARK)))
        # Here nothing is shown at the first moment.
        other = other.insert_contact(0, ("p", "a", "s", "make", "both"))
        self.check(PLAIN, other, (small_play("S r"), [], small_play("z z")))

    def test_the_first_of_several_moments(self):
        one = small_board("abc", "st", ["qb", "rc"], ["xa"], ["pbs", "pct"])
        other = small_board("abcd", "st", ["qb", "rc"], ["xa"], ["pbq", "pcr", "paq", "par"])
        # With s on, then t on; the moments stand in the order of their first plays.
        self.check(one, other, (small_play("S q"), [], [], (DARK, LIT)))
        other = small_board("abcd", "st", ["qb", "rc"], ["xa"], ["pbq", "pcr", "par"])
        self.check(one, other, (small_play("T r"), [], [], (DARK, LIT)))
        # Both relays have to be up.
        other = small_board("abcd", "st", ["qb", "rc"], ["xa"], ["pbq", "pcr", "pdq", "dar"])
        found = change(one, other)
        self.assertEqual((found.before, found.first), (small_play("S q T r"), []))

    def test_a_short_at_the_change(self):
        other = small_board("ab", "s", ["rb"], ["xa"], ["pas", "pmr"])
        self.assertIsNone(agree(PLAIN, other))
        self.check(PLAIN, other, (small_play("S r"), [], small_play("r"), (LIT, ((), True))))

    def test_a_race_behind_the_change(self):
        self.assertIsNone(change(HASTY, HASTY))
        for hurry in (1, 2, 8):
            self.assertFalse(is_determinate(HASTY, hurry=hurry))
            expected = ([], small_play("S r S"), small_play("S S"), (LIT, DARK))
            self.check(HASTY, HASTY, expected, hurry=hurry)
        # A race without hurry.
        rivals = small_board("abc", "s", ["qb", "rc"], ["xb"], ["pas", "ab!r", "ac!q"])
        expected = ([], small_play("S q"), small_play("S r"), (LIT, DARK))
        self.check(rivals, rivals, expected)

    def test_on_many_boards(self):
        kinds = {}
        for one, other in couples():
            slow_one, slow_other = slow.Slow(one), slow.Slow(other)
            for hurry in (0, 1, 8):
                expected = slow.change(slow_one, slow_other, hurry)
                found = self.check(one, other, expected, hurry=hurry)
                name = found.__class__.__name__
                kinds[name] = kinds.get(name, 0) + 1
                if expected is not None and expected[0] != "one":
                    late = (name, len(expected[0]) > 0)
                    kinds[late] = kinds.get(late, 0) + 1
        for name in ("NoneType", "Unsettled", "LateRound", "LateParting"):
            self.assertGreater(kinds[name], 20)
            if name.startswith("Late"):
                self.assertGreater(min(kinds[name, True], kinds[name, False]), 10)

    def test_what_is_told_can_be_played(self):
        for one, other in couples():
            found = change(one, other, hurry=1)
            if not isinstance(found, (LateRound, LateParting)):
                continue
            moment = run(one, found.before, hurry=1)
            self.assertTrue(moment.at_rest)
            changed = changed_state(one, other, moment.state)
            if isinstance(found, LateRound):
                search = explore_from(other, [changed], hurry=1)
                last = changed
                for move in found.play:
                    last = step(other, last, move)
                self.assertEqual(search.play_to(last), found.play)
                self.assertEqual(round_from(other, last), found.moves)
                continue
            states = []
            for board, state, play in ((one, moment.state, found.first), (other, changed, found.second)):
                for move in play:
                    state = step(board, state, move)
                self.assertTrue(is_rest(board, state))
                states.append(slow.Slow(board).show(state))
            self.assertEqual(tuple(states), found.shows)
            self.assertNotEqual(states[0], states[1])

    def test_none_means_that_the_one_settles(self):
        for one, other in couples():
            if change(one, other) is None:
                self.assertIsInstance(settles(one), Longest)

    def test_the_example(self):
        lamp = ("l", "n", "minus")
        contacts = [("plus", "n", "s", "make", "both")]
        lit = Board(nodes=["plus", "minus", "n"], switches=["s"], lamps=[lamp], contacts=contacts)
        dark = Board(nodes=["plus", "minus", "n"], switches=["s"], lamps=[lamp])
        late = change(lit, dark)
        s = [("hand", "s")]
        self.assertEqual((late.before, late.first, late.second), ([], s, s))
        self.assertEqual(late.shows, ((("l",), False), ((), False)))

    def test_answers_are_new_ones_and_boards_do_not_change(self):
        before = parts_of(PLAIN), parts_of(HELD)
        expected = told(change(PLAIN, HELD))
        for found in (change(PLAIN, HELD), change(PLAIN, HELD)):
            self.assertEqual(told(found), expected)
            found.before.clear()
            found.first.clear()
            found.second.clear()
        self.assertEqual((parts_of(PLAIN), parts_of(HELD)), before)


class TestCounts(unittest.TestCase):
    def test_different_faces_come_first(self):
        for other in (
            small_board("a", "t", [], ["xa"], ["pat"]),
            small_board("a", "s", [], ["ya"], ["pas"]),
            small_board("a", "st", [], ["xa"], ["pas"]),
            small_board("a", "s", [], ["xa", "ya"], ["pas"]),
        ):
            for limit in (1, 3000):
                for one in (LAMP, BUZZER, PLAIN):
                    with self.assertRaises(DifferentFaces):
                        change(one, other, limit=limit)
                    with self.assertRaises(DifferentFaces):
                        change(other, one, limit=limit)

    def check_limit(self, one, other, hurry=0):
        counts = slow.change_counts(slow.Slow(one), slow.Slow(other), hurry)
        check_limits(self, max(counts), lambda limit: change(one, other, hurry=hurry, limit=limit))
        return counts

    def test_states_of_the_one_board(self):
        # The one board is at rest with s off alone, and then the other one holds the hands.
        one = small_board("abc", "s", ["rb", "zc", "qc"], ["xa"], ["pas", "pcs", "cb!r"])
        counts = self.check_limit(one, EARLY_BUZZER)
        self.assertGreater(counts[0], max(counts[1:]))
        self.assertEqual(counts[1:], [2, 2])
        self.assertIsInstance(change(one, EARLY_BUZZER), Unsettled)

    def test_states_of_the_other_board(self):
        # The one board buzzes and holds the hands as soon as any switch is on.
        switches = "stuvwz"
        one = small_board("abc", switches, ["rc"], ["xa"], [f"pb{name}" for name in switches] + ["bc!r"])
        other = small_board("a", switches, [], ["xa"], ["pas"])
        counts = self.check_limit(one, other)
        self.assertEqual(counts, [13, 64, 13])
        self.assertIsInstance(change(one, other, limit=64), Unsettled)

    def test_no_moments(self):
        # Neither the other board nor pairs are looked at.
        other = small_board("ab", "s", ["qb", "zb", "kb"], ["xa"], ["pas", "pb-"])
        self.assertEqual(self.check_limit(EARLY_BUZZER, other), [2, 0, 0])

    def test_pairs(self):
        other = small_board("ab", "s", ["rb", "qb"], ["xa"], ["pas", "pbs"])
        counts = self.check_limit(PLAIN, other)
        self.assertGreater(counts[2], max(counts[:2]))

    def test_all_changed_states_and_all_moments_together(self):
        together = [0, 0]
        for one, other in couples():
            for hurry in (0, 1):
                counts = self.check_limit(one, other, hurry)
                slow_one, slow_other = slow.Slow(one), slow.Slow(other)
                starts = [pair for pair, _ in slow.moments(slow_one, slow_other, hurry)]
                alone = [len(slow_other.reached([changed], hurry)) for _, changed in starts]
                together[0] += counts[1] > max(alone, default=0) and counts[1] == max(counts)
                alone = [len(slow.reached_pairs(slow_one, slow_other, [pair], hurry)) for pair in starts]
                together[1] += counts[2] > max(alone, default=0) and counts[2] == max(counts)
        self.assertGreater(min(together), 3)

    def test_too_many_comes_before_any_answer(self):
        for one, other in ((BUZZER, LAMP), (LAMP, NONE), (LAMP, EARLY_BUZZER), (PLAIN, HELD)):
            with self.assertRaises(TooMany) as caught:
                change(one, other, limit=1)
            self.assertEqual(caught.exception.limit, 1)

    def test_more_than_the_boards_reach_by_themselves(self):
        # The changed states are none that the other board reaches by its own plays.
        counts = slow.change_counts(slow.Slow(PLAIN), slow.Slow(HELD), 0)
        self.assertGreater(counts[1], len(all_states(HELD)))
        self.assertGreater(counts[2], len(all_pairs(PLAIN, HELD)))

    def test_what_is_not_given(self):
        check_defaults(self, change)


if __name__ == "__main__":
    unittest.main()
