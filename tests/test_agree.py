import inspect
import unittest

from leverhouse.agree import Parting, Unsettled, agree, agreement, check_agreement
from leverhouse.boards import Board
from leverhouse.errors import DifferentFaces, InvalidState, TooMany
from leverhouse.pairs import all_pairs, first_pair
from leverhouse.plays import run, switching_of
from leverhouse.search import all_states
from leverhouse.settling import settles
from tests import naive, slow
from tests.checks import check_defaults, check_limits, told
from tests.samples import Dice, busy_board, odd_board, parts_of, small_board, small_play, twin_of

HURRIES = (0, 1, 2, 8)

# A lamp at a switch, and the same lamp at a relay that follows the switch.
LAMP = small_board("a", "s", [], ["xa"], ["pas"])
SLOW_LAMP = small_board("ab", "s", ["rb"], ["xa"], ["pbs", "par"])
# The relay of the one holds itself.
LATCH = small_board("ab", "s", ["rb"], ["xa"], ["pbs", "pbr", "par"])
DARK = small_board("a", "s", [], ["xa"], [])
# The relay interrupts itself as long as s is on.
BUZZER = small_board("ab", "s", ["rb"], ["xa"], ["pas", "ab!r"])
# The same, but as long as s is off.
EARLY_BUZZER = small_board("ab", "s", ["rb"], ["xa"], ["pa!s", "ab!r"])
# With s on there is a short; no lamp is ever live.
SHORT = small_board("a", "s", [], ["xa"], ["pms"])
# The relay holds itself, if it is given the time to come up.
HASTY = small_board("a", "s", ["ra"], ["xa"], ["pas", "par"])


def couples():
    """Boards of the same face; about two thirds of them agree."""
    for seed in range(40):
        for board in (odd_board(seed, 2, 3), busy_board(seed, 2, 2)):
            yield board, twin_of(board, seed)
            yield twin_of(board, seed + 1000), board


def agreeing():
    """Boards with a hurry in which they agree."""
    for one, other in couples():
        for hurry in (0, 1, 8):
            if agree(one, other, hurry=hurry) is None:
                yield one, other, hurry


def shows_agreement(one, other, entries, hurry):
    """Point 53, word by word."""
    one, other = slow.Slow(one), slow.Slow(other)
    if (one.start, other.start) not in [entry[:2] for entry in entries]:
        return False
    for first, second, number in entries:
        if one.rests(first) and other.rests(second) and one.show(first) != other.show(second):
            return False
        for move in slow.joint_moves(one, other, (first, second), hurry):
            behind = slow.joint_step(one, other, (first, second), move)
            places = [entry for entry in entries if entry[:2] == behind]
            if not places or move[0] != "hand" and not [entry for entry in places if entry[2] < number]:
                return False
    return True


class TestClasses(unittest.TestCase):
    def test_unsettled(self):
        found = Unsettled("one", [("hand", "s")], [("relay", "r")])
        self.assertEqual((found.which, found.play, found.moves), ("one", [("hand", "s")], [("relay", "r")]))
        found = Unsettled(moves=[], play=[("relay", "q")], which="other")
        self.assertEqual((found.which, found.play, found.moves), ("other", [("relay", "q")], []))

    def test_parting(self):
        shows = ((("x",), False), ((), True))
        found = Parting([("hand", "s")], [("relay", "r")], shows)
        self.assertEqual((found.first, found.second, found.shows), ([("hand", "s")], [("relay", "r")], shows))
        found = Parting(shows=shows, second=[], first=[("hand", "t")])
        self.assertEqual((found.first, found.second, found.shows), ([("hand", "t")], [], shows))

    def test_lists_are_copied(self):
        play, moves = [("hand", "s")], [("relay", "r")]
        round_found, parting = Unsettled("one", play, moves), Parting(play, moves, ((), ()))
        play.clear()
        moves.append("changed")
        self.assertEqual((round_found.play, round_found.moves), ([("hand", "s")], [("relay", "r")]))
        self.assertEqual((parting.first, parting.second), ([("hand", "s")], [("relay", "r")]))


class TestAgree(unittest.TestCase):
    def check(self, one, other, expected, **given):
        self.assertEqual(told(agree(one, other, **given)), expected)

    def test_boards_that_agree(self):
        for one, other in ((LAMP, LAMP), (LAMP, SLOW_LAMP), (SLOW_LAMP, LAMP), (DARK, DARK), (SHORT, SHORT)):
            for hurry in HURRIES:
                self.assertIsNone(agree(one, other, hurry=hurry))

    def test_boards_that_part(self):
        lit, dark = (("x",), False), ((), False)
        s = small_play("S")
        self.check(LAMP, DARK, (s, s, (lit, dark)))
        self.check(DARK, LAMP, (s, s, (dark, lit)))
        self.check(SLOW_LAMP, DARK, (small_play("S r"), s, (lit, dark)))
        self.check(LATCH, LAMP, (small_play("S r S"), small_play("S S"), (lit, dark)))
        self.check(LATCH, SLOW_LAMP, (small_play("S r S"), small_play("S r S r"), (lit, dark)))

    def test_both_have_to_be_at_rest(self):
        # Until the relay is up the boards show different things, but one of them is not at rest.
        self.assertIsNone(agree(LAMP, SLOW_LAMP))
        self.check(SLOW_LAMP, SHORT, (small_play("S r"), small_play("S"), ((("x",), False), ((), True))))

    def test_lamps_alone(self):
        one = small_board("a", "s", [], ["xa", "ya"], ["pas"])
        other = small_board("ab", "s", [], ["xa", "yb"], ["pas"])
        s = small_play("S")
        self.check(one, other, (s, s, ((("x", "y"), False), (("x",), False))))

    def test_the_fuse_alone(self):
        s = small_play("S")
        self.check(DARK, SHORT, (s, s, (((), False), ((), True))))
        self.check(SHORT, DARK, (s, s, (((), True), ((), False))))

    def test_in_the_first_pair(self):
        wire = small_board("a", "s", [], ["xa"], ["pa-"])
        self.check(wire, DARK, ([], [], ((("x",), False), ((), False))))
        blown = small_board("a", "s", [], ["xa"], ["pm-"])
        self.check(DARK, blown, ([], [], (((), False), ((), True))))

    def test_the_order_of_moves_makes_a_race(self):
        self.assertIsNone(agree(HASTY, HASTY))
        first, second = small_play("S r S"), small_play("S S")
        for hurry in (1, 2, 8):
            self.check(HASTY, HASTY, (first, second, ((("x",), False), ((), False))), hurry=hurry)

    def test_a_board_that_does_not_settle(self):
        s, moves = small_play("S"), small_play("r r")
        early = small_play("r r")
        self.check(BUZZER, LAMP, ("one", s, moves))
        self.check(LAMP, BUZZER, ("other", s, moves))
        self.check(EARLY_BUZZER, LAMP, ("one", [], early))
        self.check(LAMP, EARLY_BUZZER, ("other", [], early))
        for hurry in HURRIES:
            self.check(BUZZER, BUZZER, ("one", s, moves), hurry=hurry)

    def test_the_one_comes_before_the_other(self):
        self.check(BUZZER, EARLY_BUZZER, ("one", small_play("S"), small_play("r r")))
        self.check(EARLY_BUZZER, BUZZER, ("one", [], small_play("r r")))

    def test_what_does_not_settle_comes_before_what_parts(self):
        # The boards part in the first pair, and the other one buzzes later.
        wire = small_board("a", "s", [], ["xa"], ["pa-"])
        self.check(wire, BUZZER, ("other", small_play("S"), small_play("r r")))
        self.check(BUZZER, wire, ("one", small_play("S"), small_play("r r")))

    def test_a_board_that_settles_in_a_small_hurry_alone(self):
        # Both relays hold themselves; q alone with s off makes z buzz.
        contacts = ["pas", "pbs", "paq", "pbr", "pdq", "de!r", "ef!s", "fc!z"]
        board = small_board("abcdef", "s", ["qa", "rb", "zc"], ["xa"], contacts)
        other = small_board("ab", "s", ["qa"], ["xa"], ["pas", "paq"])
        self.assertIsNone(agree(board, other))
        for hurry in (1, 2, 8):
            self.check(board, other, ("one", small_play("S q S"), small_play("z z")), hurry=hurry)
            self.check(other, board, ("other", small_play("S q S"), small_play("z z")), hurry=hurry)

    def test_the_first_of_several_pairs(self):
        # Both relays show themselves by a lamp, and the other board has neither.
        one = small_board("ab", "st", ["qa", "rb"], ["xa", "yb"], ["pat", "pbs"])
        other = small_board("ab", "st", [], ["xa", "yb"], [])
        s = small_play("S")
        self.check(one, other, (small_play("S r"), s, ((("y",), False), ((), False))))
        # One of the two relays of this one has to be up first, and the first one is taken.
        one = small_board("abc", "s", ["qa", "ra"], ["xc"], ["pas", "pcq"])
        other = small_board("abc", "s", ["ra", "qa"], ["xb"], ["pas"])
        shows = ((("x",), False), ((), False))
        self.check(one, other, (small_play("S q r"), small_play("S r q"), shows))

    def test_on_many_boards(self):
        answers = {"one": 0, "other": 0, "none": 0, "parting": 0}
        for one, other in couples():
            slow_one, slow_other = slow.Slow(one), slow.Slow(other)
            for hurry in HURRIES:
                expected = slow.agree(slow_one, slow_other, hurry)
                self.assertEqual(told(agree(one, other, hurry=hurry)), expected)
                if expected is None:
                    answers["none"] += 1
                elif expected[0] in ("one", "other"):
                    answers[expected[0]] += 1
                else:
                    answers["parting"] += 1
        for which, count in answers.items():
            self.assertGreater(count, 4, which)

    def test_the_round_is_the_one_that_settles_returns(self):
        for one, other in couples():
            found = agree(one, other, hurry=1)
            if isinstance(found, Unsettled):
                alone = settles(one if found.which == "one" else other, hurry=1)
                self.assertEqual((found.play, found.moves), (alone.play, alone.moves))

    def test_partings_can_be_played(self):
        for one, other in couples():
            found = agree(one, other, hurry=1)
            if isinstance(found, Parting):
                first, second = run(one, found.first, hurry=1), run(other, found.second, hurry=1)
                self.assertTrue(first.at_rest and second.at_rest)
                self.assertEqual(found.shows, (first.show, second.show))
                self.assertNotEqual(first.show, second.show)
                self.assertEqual(switching_of(found.first), switching_of(found.second))

    def test_no_short_plays_part_boards_that_agree(self):
        for one, other, hurry in list(agreeing())[:60]:
            slow_one, slow_other = slow.Slow(one), slow.Slow(other)
            seconds = {}
            for play, state in naive.plays_by_length(other, hurry, 4):
                if slow_other.rests(state):
                    seconds.setdefault(tuple(switching_of(play)), set()).add(slow_other.show(state))
            for play, state in naive.plays_by_length(one, hurry, 4):
                if slow_one.rests(state):
                    found = seconds.get(tuple(switching_of(play)), set())
                    self.assertLessEqual(found, {slow_one.show(state)})

    def test_the_example(self):
        lamp = ("l", "n", "minus")
        contacts = [("plus", "n", "s", "make", "both")]
        lit = Board(nodes=["plus", "minus", "n"], switches=["s"], lamps=[lamp], contacts=contacts)
        dark = Board(nodes=["plus", "minus", "n"], switches=["s"], lamps=[lamp])
        s = [("hand", "s")]
        self.check(lit, dark, (s, s, ((("l",), False), ((), False))))

    def test_boards_do_not_change_and_answers_are_new_ones(self):
        before = parts_of(LATCH), parts_of(BUZZER)
        found = agree(LATCH, LAMP)
        found.first.clear()
        found.second.append("changed")
        self.check(LATCH, LAMP, (small_play("S r S"), small_play("S S"), ((("x",), False), ((), False))))
        found = agree(BUZZER, LAMP)
        found.play.clear()
        found.moves.clear()
        self.check(BUZZER, LAMP, ("one", small_play("S"), small_play("r r")))
        self.assertEqual((parts_of(LATCH), parts_of(BUZZER)), before)


class TestCounts(unittest.TestCase):
    def counts_of(self, one, other, hurry):
        states = len(all_states(one, hurry=hurry)), len(all_states(other, hurry=hurry))
        return [*states, len(all_pairs(one, other, hurry=hurry))]

    def test_the_greatest_count(self):
        for one, other in [(LAMP, DARK), (LATCH, LAMP), (BUZZER, LAMP), *list(couples())[:30]]:
            for hurry in (0, 1, 8):
                count = max(self.counts_of(one, other, hurry))
                for question in (agree, agreement):
                    check_limits(self, count, lambda limit: question(one, other, hurry=hurry, limit=limit))

    def test_states_of_one_board_alone(self):
        # The board that buzzes from the start lets no hand move jointly.
        switches = list("stuv")
        board = small_board("a", switches, [], ["xa"], ["pas"])
        buzzer = small_board("a", switches, ["ra"], ["xa"], ["pa!r"])
        self.assertEqual(self.counts_of(board, buzzer, 0), [16, 2, 2])
        self.assertEqual(self.counts_of(buzzer, board, 0), [2, 16, 2])
        for question in (agree, agreement):
            check_limits(self, 16, lambda limit: question(board, buzzer, limit=limit))
            check_limits(self, 16, lambda limit: question(buzzer, board, limit=limit))

    def test_pairs(self):
        # More pairs than states, and the boards part in the first pair.
        one = small_board("ab", "s", ["qa", "ra"], ["xb"], ["pas", "pb-"])
        other = small_board("ab", "s", ["qa", "ra"], ["xb"], ["pas"])
        counts = self.counts_of(one, other, 0)
        self.assertGreater(counts[2], max(counts[:2]))
        self.assertEqual(agree(one, other).first, [])
        for question in (agree, agreement):
            check_limits(self, counts[2], lambda limit: question(one, other, limit=limit))

    def test_too_many_comes_before_any_answer(self):
        for one, other in ((BUZZER, LAMP), (LAMP, BUZZER), (LAMP, DARK), (LATCH, LAMP)):
            for question in (agree, agreement):
                with self.assertRaises(TooMany) as caught:
                    question(one, other, limit=1)
                self.assertEqual(caught.exception.limit, 1)

    def test_different_faces_come_first(self):
        for other in (
            small_board("a", "t", [], ["xa"], ["pat"]),
            small_board("a", "s", [], ["ya"], ["pas"]),
            small_board("a", "st", [], ["xa"], ["pas"]),
            small_board("a", "s", [], ["xa", "ya"], ["pas"]),
        ):
            for question in (agree, agreement):
                for limit in (1, 3000):
                    for pair in ((LAMP, other), (other, LAMP), (BUZZER, other), (other, BUZZER)):
                        with self.assertRaises(DifferentFaces):
                            question(*pair, limit=limit)

    def test_what_is_not_given(self):
        check_defaults(self, agree, agreement)


class TestAgreement(unittest.TestCase):
    def test_by_hand(self):
        entries = [
            (((False, False), False), ((False,), False), 0),
            (((True, False), False), ((True,), False), 1),
            (((True, True), False), ((True,), False), 0),
            (((False, True), False), ((False,), False), 1),
        ]
        self.assertEqual(agreement(SLOW_LAMP, LAMP), entries)
        turned = [(second, first, number) for first, second, number in entries]
        self.assertEqual(agreement(LAMP, SLOW_LAMP), turned)

    def test_sums(self):
        entries = agreement(SLOW_LAMP, SLOW_LAMP)
        self.assertEqual([number for _, _, number in entries], [0, 2, 1, 1, 0, 2, 1, 1])
        one = small_board("ab", "s", ["qa", "rb"], ["xb"], ["pas", "pbq"])
        entries = agreement(one, one)
        self.assertEqual([number for _, _, number in entries][:4], [0, 4, 3, 3])

    def test_boards_that_do_not_agree(self):
        for one, other in ((LAMP, DARK), (LATCH, LAMP), (DARK, SHORT), (BUZZER, LAMP), (LAMP, BUZZER)):
            self.assertIsNone(agreement(one, other))
        self.assertIsNone(agreement(HASTY, HASTY, hurry=1))
        self.assertIsNotNone(agreement(HASTY, HASTY))

    def test_on_many_boards(self):
        for one, other in couples():
            slow_one, slow_other = slow.Slow(one), slow.Slow(other)
            for hurry in (0, 1, 8):
                if slow.agree(slow_one, slow_other, hurry) is not None:
                    self.assertIsNone(agreement(one, other, hurry=hurry))
                    continue
                start = (slow_one.start, slow_other.start)
                expected = []
                for first, second in slow.reached_pairs(slow_one, slow_other, [start], hurry):
                    number = slow_one.longest(first) + slow_other.longest(second)
                    expected.append((first, second, number))
                found = agreement(one, other, hurry=hurry)
                self.assertEqual(found, expected)
                self.assertIs(check_agreement(one, other, found, hurry=hurry), True)

    def test_each_list_is_a_new_one(self):
        kept = agreement(LAMP, SLOW_LAMP)
        agreement(LAMP, SLOW_LAMP).clear()
        self.assertEqual(agreement(LAMP, SLOW_LAMP), kept)
        self.assertIsInstance(kept[0], tuple)


class TestCheckAgreement(unittest.TestCase):
    def test_right_lists(self):
        for one, other, hurry in [(SLOW_LAMP, LAMP, 0), *list(agreeing())[:40]]:
            entries = agreement(one, other, hurry=hurry)
            lists = [entries, entries[::-1], entries + entries[:3]]
            lists.append([(first, second, number * 3 + 5) for first, second, number in entries])
            lists.append(sorted(entries, key=lambda entry: (entry[2], str(entry))))
            for given in lists:
                self.assertIs(check_agreement(one, other, given, hurry=hurry), True)

    def test_a_smaller_hurry(self):
        for one, other, hurry in list(agreeing())[:40]:
            entries = agreement(one, other, hurry=hurry)
            for smaller in range(hurry + 1):
                self.assertIs(check_agreement(one, other, entries, hurry=smaller), True)

    def test_the_hurry_that_is_not_given(self):
        entries = agreement(LAMP, LAMP)
        # Without hurry, hands move at rest.
        self.assertIs(check_agreement(LAMP, LAMP, entries), True)
        self.assertIs(check_agreement(LAMP, LAMP, entries[:1]), False)
        self.assertEqual(inspect.signature(check_agreement).parameters["hurry"].default, 0)

    def test_a_hurry_that_is_too_great(self):
        entries = agreement(HASTY, HASTY)
        self.assertIs(check_agreement(HASTY, HASTY, entries, hurry=0), True)
        self.assertIs(check_agreement(HASTY, HASTY, entries, hurry=1), False)
        self.assertIs(check_agreement(HASTY, HASTY, entries), True)

    def test_the_empty_list(self):
        self.assertIs(check_agreement(LAMP, LAMP, []), False)
        bare = small_board()
        self.assertIs(check_agreement(bare, bare, []), False)
        self.assertIs(check_agreement(bare, bare, [(*first_pair(bare, bare), 0)]), True)

    def test_an_entry_left_out(self):
        for one, other, hurry in [(SLOW_LAMP, LAMP, 0), *list(agreeing())[:20]]:
            entries = agreement(one, other, hurry=hurry)
            for number in range(len(entries)):
                given = entries[:number] + entries[number + 1:]
                self.assertIs(check_agreement(one, other, given, hurry=hurry), False)

    def test_numbers(self):
        entries = agreement(SLOW_LAMP, LAMP)
        for at, numbers, expected in (
            (1, (1, 2, 7), True),
            (1, (0,), False),
            (2, (0,), True),
            (2, (1, 2), False),
            (3, (1, 9), True),
            (3, (0,), False),
            (0, (0,), True),
            (0, (1, 2), False),
        ):
            for number in numbers:
                given = list(entries)
                given[at] = (*entries[at][:2], number)
                self.assertIs(check_agreement(SLOW_LAMP, LAMP, given), expected)
                turned = [(second, first, told) for first, second, told in given]
                self.assertIs(check_agreement(LAMP, SLOW_LAMP, turned), expected)

    def test_a_pair_twice(self):
        entries = agreement(SLOW_LAMP, LAMP)
        # The relay's move needs a smaller number in some place alone.
        again = (*entries[2][:2], 5)
        self.assertIs(check_agreement(SLOW_LAMP, LAMP, [again, *entries]), True)
        self.assertIs(check_agreement(SLOW_LAMP, LAMP, [*entries, again]), True)
        # But each of the places of the pair itself needs one behind it.
        again = (*entries[1][:2], 0)
        self.assertIs(check_agreement(SLOW_LAMP, LAMP, [again, *entries]), False)
        self.assertIs(check_agreement(SLOW_LAMP, LAMP, [*entries, again]), False)

    def test_hands_need_no_smaller_number(self):
        entries = agreement(LAMP, LAMP)
        self.assertEqual([number for _, _, number in entries], [0, 0])
        self.assertIs(check_agreement(LAMP, LAMP, entries), True)
        given = [(*entries[0][:2], 0), (*entries[1][:2], 9)]
        self.assertIs(check_agreement(LAMP, LAMP, given), True)

    def test_pairs_that_are_not_reached(self):
        entries = agreement(SLOW_LAMP, LAMP)
        # A blown fuse on both boards: the relay falls, whatever the switch does.
        more = []
        for on in (False, True):
            more.append((((on, True), True), ((on,), True), 1))
            more.append((((on, False), True), ((on,), True), 0))
        self.assertIs(check_agreement(SLOW_LAMP, LAMP, entries + more), True)
        # Nothing leads to the pairs in which the relay is up; those in which it is down have to stand there.
        for number, expected in enumerate((True, False, True, False)):
            given = entries + more[:number] + more[number + 1:]
            self.assertIs(check_agreement(SLOW_LAMP, LAMP, given), expected)
        self.assertIs(check_agreement(SLOW_LAMP, LAMP, more), False)

    def test_different_shows_at_rest(self):
        # The list is closed, but with s on the boards show different things.
        entries = [(((on,), False), ((on,), False), 0) for on in (False, True)]
        self.assertIs(check_agreement(LAMP, DARK, entries), False)
        self.assertIs(check_agreement(LAMP, LAMP, entries), True)
        # The same of a pair that is not reached: the fuse of one board alone is blown.
        entries += [(((on,), True), ((on,), False), 0) for on in (False, True)]
        self.assertIs(check_agreement(LAMP, LAMP, entries), False)
        self.assertIs(check_agreement(LAMP, LAMP, entries[::-1]), False)

    def test_different_shows_of_one_board_that_is_not_at_rest(self):
        entries = agreement(SLOW_LAMP, LAMP)
        first, second, _ = entries[1]
        self.assertNotEqual(slow.Slow(SLOW_LAMP).show(first), slow.Slow(LAMP).show(second))
        self.assertIs(check_agreement(SLOW_LAMP, LAMP, entries), True)

    def test_changed_lists_on_many_boards(self):
        answers = [0, 0]
        for seed, (one, other, hurry) in enumerate(list(agreeing())[:80]):
            dice = Dice(seed)
            entries = agreement(one, other, hurry=hurry)
            for _ in range(4):
                given = list(entries)
                at = dice.below(len(given))
                first, second, number = given[at]
                given[at] = (first, second, max(0, number + dice.below(3) - 1))
                if dice.below(4) == 0:
                    given.insert(0, (first, second, dice.below(3)))
                if dice.below(5) == 0:
                    given.pop(dice.below(len(given)))
                expected = shows_agreement(one, other, given, hurry)
                self.assertIs(check_agreement(one, other, given, hurry=hurry), expected)
                answers[expected] += 1
        self.assertGreater(min(answers), 20)

    def test_lists_for_boards_that_do_not_agree(self):
        for one, other in couples():
            if agree(one, other, hurry=1) is not None:
                given = [(*pair, 0) for pair in all_pairs(one, other, hurry=1)]
                given += [(*pair, 1) for pair in all_pairs(one, other, hurry=1)]
                self.assertIs(check_agreement(one, other, given, hurry=1), False)
        s, r = ((False, False), False), ((False, True), False)
        self.assertIs(check_agreement(EARLY_BUZZER, EARLY_BUZZER, [(s, s, 1), (r, r, 0)]), False)

    def test_the_list_stays_as_it_is(self):
        entries = agreement(SLOW_LAMP, LAMP)[::-1]
        kept = list(entries)
        check_agreement(SLOW_LAMP, LAMP, entries)
        self.assertEqual(entries, kept)

    def test_different_faces_come_first(self):
        other = small_board("a", "s", [], ["ya"], ["pas"])
        wrong = [(((False, False, False), False), ((False,), False), 0)]
        for entries in ([], wrong):
            with self.assertRaises(DifferentFaces):
                check_agreement(LAMP, other, entries)
            with self.assertRaises(DifferentFaces):
                check_agreement(other, LAMP, entries)

    def test_wrong_states_at_each_place(self):
        # With s on, the boards have a short.
        one = small_board("a", "s", ["ra"], ["xa"], ["pms"])
        other = small_board("a", "s", [], ["xa"], ["pms"])
        entries = agreement(one, other)
        self.assertIs(check_agreement(one, other, entries), True)
        firsts = [((), False), ((False,), True), ((False,) * 3, False), ((True, False), False), ((True, True), False)]
        seconds = [((), False), ((), True), ((False,) * 2, True), ((True,), False)]
        rest = [first for first, _, _ in entries], [second for _, second, _ in entries]
        for at in range(len(entries) + 1):
            for first in firsts:
                given = entries[:at] + [(first, rest[1][0], 0)] + entries[at:]
                with self.assertRaises(InvalidState):
                    check_agreement(one, other, given)
            for second in seconds:
                given = entries[:at] + [(rest[0][0], second, 0)] + entries[at:]
                with self.assertRaises(InvalidState):
                    check_agreement(one, other, given)

    def test_wrong_states_come_before_any_answer(self):
        wrong = (((True,), False), ((), False), 0)
        different = (((True,), False), ((True,), True), 0)
        for entries in ([wrong], [*agreement(LAMP, LAMP)[1:], wrong], [different, wrong], [wrong, different]):
            with self.assertRaises(InvalidState):
                check_agreement(LAMP, LAMP, entries)
            with self.assertRaises(InvalidState):
                check_agreement(BUZZER, LAMP, [wrong])

    def test_states_that_fit_the_other_board_alone(self):
        # Each state is looked at on its own board.
        one, other = small_board("a", "s", [], ["xa"], ["pas"]), small_board("a", "s", [], ["xa"], ["pms"])
        on = ((True,), False)
        with self.assertRaises(InvalidState):
            check_agreement(one, other, [(on, on, 0)])
        with self.assertRaises(InvalidState):
            check_agreement(other, one, [(on, on, 0)])
        with self.assertRaises(InvalidState):
            check_agreement(other, one, [(on, ((True,), True), 0)])
        self.assertIs(check_agreement(one, other, [(on, ((True,), True), 0)]), False)
        self.assertIs(check_agreement(other, one, [(((True,), True), on, 0)]), False)
        two = small_board("a", "s", ["ra"], ["xa"], ["pas"])
        with self.assertRaises(InvalidState):
            check_agreement(one, two, [(((True, True), False), ((True,), False), 0)])
        self.assertIs(check_agreement(one, two, [(((True,), False), ((True, True), False), 0)]), False)

    def test_a_blown_fuse_without_a_short_is_a_state(self):
        self.assertIs(check_agreement(LAMP, LAMP, [(((True,), True), ((False,), True), 0)]), False)


if __name__ == "__main__":
    unittest.main()
