import unittest

from leverhouse.agree import Parting, Unsettled, agree
from leverhouse.certificates import (
    agreement_certificate,
    check_agreeing,
    check_settling,
    settling_certificate,
)
from leverhouse.errors import DifferentFaces, InvalidCertificate, TooMany
from leverhouse.settling import Longest, settles
from tests import papers, slow
from tests.checks import check_defaults, check_limits
from tests.samples import (
    Dice,
    busy_board,
    deep_board,
    odd_board,
    parts_of,
    small_board,
    twin_of,
)

LAMP = small_board("a", "s", [], ["xa"], ["pas"])
NONE = small_board("a", "s", [], ["xa"], [])
# Without movers: dark, lit, and with a short.
BARE = small_board("a", "", [], ["xa"], [])
BRIGHT = small_board("a", "", [], ["xa"], ["pa-"])
SHORT = small_board("a", "", [], ["xa"], ["pm-"])
# The relay follows the switch, and the lamp the relay.
PLAIN = small_board("ab", "s", ["ra"], ["xb"], ["pas", "pbr"])
# The relay buzzes while the switch is on.
BUZZER = small_board("ab", "s", ["rb"], ["xa"], ["pas", "ab!r"])
ALWAYS = small_board("a", "", ["ra"], ["xa"], ["pa!r"])
# Both switches make a short.
FUSE = small_board("a", "st", [], ["xa"], ["pas", "amt"])
# The relay holds itself, if it is given the time to come up.
HASTY = small_board("a", "s", ["ra"], ["xa"], ["pas", "par"])
# The relay r follows q, and q the switch.
CHAIN = small_board("abc", "s", ["qa", "rb"], ["xc"], ["pas", "pbq", "pcr"])
MOST = small_board(
    "a", "stuvwz", [f"{name}a" for name in "bcdefghi"], ["xa"], ["pas", "pat", "pau", "pav", "paw", "paz"]
)


def lines(*rows):
    return "\n".join(rows)


def couples():
    for seed in range(24):
        for board in (odd_board(seed, 2, 2), busy_board(seed, 1, 2), deep_board(seed, 1, 2)):
            yield board, board
            yield board, twin_of(board, seed)
            yield twin_of(board, seed + 1), board
        yield busy_board(seed, 2, 2), busy_board(seed + 1000, 2, 2)


def spoiled(text, dice):
    """The text with something in it changed."""
    rows = text.split("\n")
    at = dice.below(len(rows))
    words = rows[at].split(" ")
    place = dice.below(len(words))
    kind = dice.below(12)
    if kind == 0:
        del rows[at]
    elif kind == 1:
        rows.insert(at, rows[dice.below(len(rows))])
    elif kind == 2:
        other = dice.below(len(rows))
        rows[at], rows[other] = rows[other], rows[at]
    elif kind == 3:
        rows.insert(at, "")
    elif kind == 4:
        del words[place]
    elif kind == 5:
        words.insert(place, dice.pick(["", "0", "1", "one", "other", "r0", *words]))
    elif kind == 6:
        words[place] = dice.pick(text.replace("\n", " ").split(" "))
    elif kind == 7:
        bits = "".join(dice.pick("01") for _ in words[place])
        words[place] = bits if set(words[place]) <= set("01") else words[place].upper()
    elif kind == 8:
        words[-1] = str(dice.below(4))
    elif kind == 9:
        words[place] = dice.pick(["blown", "whole", "-", "00", "01", "9", "10", "hand", "relay", "s0", "zz"])
    elif kind == 10:
        words[1:2] = [str(dice.below(10))]
    else:
        words[place] += dice.pick([" ", "0", "x", "\t", "-"])
    if kind > 3 and rows:
        rows[at] = " ".join(words)
    return "\n".join(rows)


class Checks(unittest.TestCase):
    def check_alone(self, board, text, expected):
        self.assertIs(check_settling(board, text), expected, text)

    def check_both(self, one, other, text, expected):
        self.assertIs(check_agreeing(one, other, text), expected, text)

    def check_invalid_alone(self, line, text, *boards):
        for board in boards or (LAMP, BUZZER, BARE):
            with self.assertRaises(InvalidCertificate, msg=text) as caught:
                check_settling(board, text)
            self.assertEqual(caught.exception.line, line, text)

    def check_invalid_both(self, line, text):
        for one, other in ((LAMP, NONE), (BUZZER, LAMP), (BARE, BRIGHT)):
            with self.assertRaises(InvalidCertificate, msg=text) as caught:
                check_agreeing(one, other, text)
            self.assertEqual(caught.exception.line, line, text)


class TestSettlingCertificate(unittest.TestCase):
    def test_boards_that_settle(self):
        self.assertEqual(settling_certificate(LAMP), lines("settles 0", "state 0 whole 0", "state 1 whole 0"))
        expected = lines("settles 0", "state 00 whole 0", "state 10 whole 1", "state 11 whole 0", "state 01 whole 1")
        self.assertEqual(settling_certificate(PLAIN), expected)
        expected = lines("settles 0", "state 00 whole 0", "state 10 whole 0", "state 01 whole 0", "state 11 blown 0")
        found = settling_certificate(FUSE)
        self.assertEqual(found, lines(expected, "state 01 blown 0", "state 10 blown 0", "state 00 blown 0"))

    def test_boards_that_do_not_settle(self):
        expected = lines("round 0", "go hand s", "turn relay r", "turn relay r")
        self.assertEqual(settling_certificate(BUZZER), expected)
        self.assertEqual(settling_certificate(ALWAYS), lines("round 0", "turn relay r", "turn relay r"))

    def test_boards_without_movers(self):
        self.assertEqual(settling_certificate(BARE), lines("settles 0", "state - whole 0"))
        self.assertEqual(settling_certificate(SHORT), lines("settles 0", "state - blown 0"))

    def test_the_hurry(self):
        for hurry in (1, 8):
            found = settling_certificate(BUZZER, hurry=hurry)
            self.assertEqual(found, lines(f"round {hurry}", "go hand s", "turn relay r", "turn relay r"))
            expected = lines(f"settles {hurry}", "state 0 whole 0", "state 1 whole 0")
            self.assertEqual(settling_certificate(LAMP, hurry=hurry), expected)

    def test_all_movers(self):
        found = settling_certificate(MOST, hurry=8, limit=20000)
        rows = found.split("\n")
        self.assertEqual((rows[:2], len(rows)), (["settles 8", "state " + "0" * 14 + " whole 0"], 1 + 64 * 256))
        self.assertIs(check_settling(MOST, found), True)
        self.assertIs(check_settling(MOST, "\n".join(rows[:-1])), False)

    def test_on_many_boards(self):
        words = {}
        for _, other in couples():
            for hurry in (0, 1, 8):
                found = settling_certificate(other, hurry=hurry)
                self.assertEqual(found, papers.settling_certificate(slow.Slow(other), hurry))
                self.assertIs(check_settling(other, found), True)
                self.assertEqual(found.startswith("settles"), isinstance(settles(other, hurry=hurry), Longest))
                words[found[0]] = words.get(found[0], 0) + 1
        self.assertGreater(min(words.values()), 30)
        self.assertEqual(len(words), 2)

    def test_limits(self):
        check_defaults(self, settling_certificate, agreement_certificate)
        for board, count in ((LAMP, 2), (PLAIN, 4), (FUSE, 7), (BUZZER, 3), (ALWAYS, 2), (BARE, 1)):
            check_limits(self, count, lambda limit: settling_certificate(board, limit=limit))
        with self.assertRaises(TooMany) as caught:
            settling_certificate(MOST, hurry=8)
        self.assertEqual(caught.exception.limit, 3000)


class TestAgreementCertificate(unittest.TestCase):
    def test_boards_that_agree(self):
        expected = lines("agree 0", "pair 0 whole 0 whole 0", "pair 1 whole 1 whole 0")
        self.assertEqual(agreement_certificate(LAMP, LAMP), expected)
        found = agreement_certificate(PLAIN, LAMP)
        expected = lines("agree 0", "pair 00 whole 0 whole 0", "pair 10 whole 1 whole 1", "pair 11 whole 1 whole 0")
        self.assertEqual(found, lines(expected, "pair 01 whole 0 whole 1"))
        found = agreement_certificate(LAMP, PLAIN)
        expected = lines("agree 0", "pair 0 whole 00 whole 0", "pair 1 whole 10 whole 1", "pair 1 whole 11 whole 0")
        self.assertEqual(found, lines(expected, "pair 0 whole 01 whole 1"))

    def test_boards_that_part(self):
        self.assertEqual(agreement_certificate(LAMP, NONE), lines("part 0", "first hand s", "second hand s"))
        expected = lines("part 0", "first hand s", "first relay r", "second hand s")
        self.assertEqual(agreement_certificate(PLAIN, NONE), expected)
        expected = lines("part 0", "first hand s", "second hand s", "second relay r")
        self.assertEqual(agreement_certificate(NONE, PLAIN), expected)
        self.assertEqual(agreement_certificate(BARE, BRIGHT), "part 0")

    def test_boards_that_do_not_settle(self):
        tail = lines("go hand s", "turn relay r", "turn relay r")
        self.assertEqual(agreement_certificate(BUZZER, LAMP), lines("round 0 one", tail))
        self.assertEqual(agreement_certificate(LAMP, BUZZER), lines("round 0 other", tail))
        self.assertEqual(agreement_certificate(BUZZER, BUZZER), lines("round 0 one", tail))
        self.assertEqual(agreement_certificate(NONE, BUZZER, hurry=8), lines("round 8 other", tail))

    def test_boards_without_movers(self):
        self.assertEqual(agreement_certificate(BARE, BARE), lines("agree 0", "pair - whole - whole 0"))
        self.assertEqual(agreement_certificate(BRIGHT, BRIGHT, hurry=3), lines("agree 3", "pair - whole - whole 0"))
        self.assertEqual(agreement_certificate(SHORT, SHORT), lines("agree 0", "pair - blown - blown 0"))
        self.assertEqual(agreement_certificate(BARE, ALWAYS), lines("round 0 other", "turn relay r", "turn relay r"))

    def test_on_many_boards(self):
        words = {}
        for one, other in couples():
            for hurry in (0, 1):
                found = agreement_certificate(one, other, hurry=hurry)
                self.assertEqual(found, papers.agreement_certificate(slow.Slow(one), slow.Slow(other), hurry))
                self.assertIs(check_agreeing(one, other, found), True)
                result = agree(one, other, hurry=hurry)
                if result is None:
                    self.assertTrue(found.startswith(f"agree {hurry}\n"))
                elif isinstance(result, Unsettled):
                    self.assertTrue(found.startswith(f"round {hurry} {result.which}\n"))
                else:
                    self.assertIsInstance(result, Parting)
                    self.assertTrue(found.startswith(f"part {hurry}"))
                word = "".join(letter for letter in found.split("\n")[0] if letter.isalpha())
                words[word] = words.get(word, 0) + 1
        self.assertEqual(sorted(words), ["agree", "part", "roundone", "roundother"])
        self.assertGreater(min(words.values()), 3)

    def test_different_faces_first(self):
        with self.assertRaises(DifferentFaces):
            agreement_certificate(LAMP, BARE, limit=1)

    def test_limits(self):
        counts = [(LAMP, LAMP, 2), (PLAIN, LAMP, 4), (BUZZER, LAMP, 3), (LAMP, BUZZER, 3), (BARE, BRIGHT, 1)]
        for one, other, count in counts:
            check_limits(self, count, lambda limit: agreement_certificate(one, other, limit=limit))

    def test_a_limit_beyond_3000(self):
        coils = [f"{name}a" for name in "bcdefgh"]
        restless = small_board("an", "stuvwz", [*coils, "in"], ["xa"], ["pas", "pn!i"])
        found = settling_certificate(restless, hurry=8, limit=20000)
        self.assertEqual(found, lines("round 8", "turn relay i", "turn relay i"))
        one = small_board("an", "stuv", ["ba", "ca", "da", "en"], ["xa"], ["pas", "pn!e"])
        other = small_board("a", "stuv", ["ba", "ca", "da", "ea"], ["xa"], ["pas"])
        found = agreement_certificate(one, other, hurry=8, limit=20000)
        self.assertEqual(found, lines("round 8 one", "turn relay e", "turn relay e"))
        dark = small_board("an", "stuv", ["bn", "cn", "dn", "en"], ["xa"], ["pns"])
        found = agreement_certificate(other, dark, hurry=8, limit=20000)
        self.assertEqual(papers.first_wrong_line(found, papers.TOGETHER), None)
        self.assertIs(check_agreeing(other, dark, found), True)
        with self.assertRaises(TooMany):
            agreement_certificate(other, dark, hurry=8)

    def test_the_boards_stay_as_they_were(self):
        before = (parts_of(PLAIN), parts_of(LAMP))
        check_agreeing(PLAIN, LAMP, agreement_certificate(PLAIN, LAMP))
        check_settling(PLAIN, settling_certificate(PLAIN))
        self.assertEqual((parts_of(PLAIN), parts_of(LAMP)), before)


class TestSettles(Checks):
    def test_right(self):
        self.check_alone(LAMP, lines("settles 0", "state 0 whole 0", "state 1 whole 0"), True)
        self.check_alone(LAMP, lines("settles 8", "state 1 whole 7", "state 0 whole 999999999"), True)
        self.check_alone(BARE, lines("settles 0", "state - whole 0"), True)
        self.check_alone(BRIGHT, lines("settles 5", "state - whole 3"), True)
        self.check_alone(SHORT, lines("settles 0", "state - blown 0"), True)

    def test_states_twice_and_states_that_are_not_reached(self):
        text = lines("settles 0", "state 0 whole 0", "state 1 whole 0", "state 0 whole 5", "state 0 whole 0")
        self.check_alone(LAMP, text, True)
        self.check_alone(LAMP, lines(text, "state 0 blown 0", "state 1 blown 2"), True)
        self.check_alone(LAMP, lines(text, "state 0 blown 0"), False)

    def test_a_state_is_missing(self):
        self.check_alone(LAMP, "settles 0", False)
        self.check_alone(BARE, "settles 0", False)
        self.check_alone(LAMP, lines("settles 0", "state 0 whole 0"), False)
        self.check_alone(LAMP, lines("settles 0", "state 1 whole 0"), False)

    def test_numbers_that_do_not_fall(self):
        rows = ["settles 0", "state 00 whole 0", "state 10 whole 1", "state 11 whole 0", "state 01 whole 1"]
        self.check_alone(PLAIN, lines(*rows), True)
        self.check_alone(PLAIN, lines(*rows).replace("10 whole 1", "10 whole 0"), False)
        self.check_alone(PLAIN, lines(*rows).replace("10 whole 1", "10 whole 2"), True)
        self.check_alone(PLAIN, lines(*rows).replace("11 whole 0", "11 whole 1"), False)
        self.check_alone(PLAIN, lines(*rows).replace("11 whole 0", "11 whole 1") + "\nstate 11 whole 0", True)
        # Numbers are compared as numbers.
        text = lines("settles 0", "state 00 whole 9", "state 10 whole 10", "state 11 whole 9", "state 01 whole 10")
        self.check_alone(PLAIN, text, True)

    def test_a_board_that_does_not_settle(self):
        rows = [f"state {bits} whole {number}" for bits in ("00", "01", "10", "11") for number in range(4)]
        self.check_alone(BUZZER, lines("settles 0", *rows), False)
        self.check_alone(ALWAYS, lines("settles 0", "state 0 whole 1", "state 1 whole 0"), False)

    def test_no_states_of_the_board(self):
        right = lines("settles 0", "state 0 whole 0", "state 1 whole 0")
        for row in ("state - whole 0", "state 00 whole 0", "state 01111 blown 4", f"state {'0' * 99} whole 0"):
            self.check_alone(LAMP, lines(right, row), False)
        self.check_alone(BARE, lines("settles 0", "state - whole 0", "state 0 whole 0"), False)
        # The fuse is whole although there is a short.
        self.check_alone(SHORT, lines("settles 0", "state - blown 0", "state - whole 0"), False)
        self.check_alone(SHORT, lines("settles 0", "state - whole 0"), False)
        rows = [f"state {bits} {fuse} 0" for fuse in ("whole", "blown") for bits in ("00", "01", "10", "11")]
        self.check_alone(FUSE, lines("settles 0", *rows), False)
        self.check_alone(FUSE, lines("settles 0", *rows).replace("11 whole", "11 blown"), True)

    def test_right_in_one_hurry_alone(self):
        right = settling_certificate(CHAIN)
        self.check_alone(CHAIN, right, True)
        self.check_alone(CHAIN, right.replace("settles 0", "settles 1"), False)
        more = settling_certificate(CHAIN, hurry=1)
        self.check_alone(CHAIN, more, True)
        self.check_alone(CHAIN, more.replace("settles 1", "settles 0"), True)


class TestRound(Checks):
    def test_right(self):
        tail = lines("turn relay r", "turn relay r")
        self.check_alone(BUZZER, lines("round 0", "go hand s", tail), True)
        self.check_alone(BUZZER, lines("round 3", "go hand s", "go relay r", tail), True)
        self.check_alone(BUZZER, lines("round 0", "go hand s", tail, tail), True)
        self.check_alone(ALWAYS, lines("round 0", tail), True)
        for which, one, other in (("one", BUZZER, LAMP), ("other", LAMP, BUZZER), ("other", BUZZER, BUZZER)):
            self.check_both(one, other, lines(f"round 0 {which}", "go hand s", tail), True)

    def test_no_round(self):
        self.check_alone(BUZZER, lines("round 0", "go hand s", "turn relay r"), False)
        self.check_alone(BUZZER, lines("round 0", "go hand s", *["turn relay r"] * 3), False)
        self.check_alone(BUZZER, lines("round 0", "turn relay r", "turn relay r"), False)
        self.check_alone(PLAIN, lines("round 0", "go hand s", "turn relay r", "turn relay r"), False)
        self.check_alone(PLAIN, lines("round 0", "go hand s", "turn relay r"), False)
        self.check_alone(LAMP, lines("round 0", "turn relay s"), False)
        self.check_alone(BARE, lines("round 0", "turn relay r"), False)

    def test_a_round_that_blows_the_fuse(self):
        # The relay comes up, blows the fuse and falls: the fuse is not the same behind it.
        board = small_board("a", "s", ["ra"], ["xa"], ["pas", "pmr"])
        self.check_alone(board, lines("round 0", "go hand s", "turn relay r", "turn relay r"), False)

    def test_no_play(self):
        tail = lines("turn relay r", "turn relay r")
        for row in ("go relay r", "go hand r", "go relay s", "go hand z", "go relay z"):
            self.check_alone(BUZZER, lines("round 0", row, "go hand s", tail), False)
            self.check_alone(BUZZER, lines("round 8", row, "go hand s", tail), False)
        self.check_alone(BUZZER, lines("round 0", "go hand s", "turn relay z", "turn relay r"), False)
        self.check_alone(BUZZER, lines("round 0", "go hand s", "turn relay s", "turn relay s"), False)

    def test_right_in_one_hurry_alone(self):
        rows = ["go hand s", "go hand s", "go hand s", "turn relay r", "turn relay r"]
        for hurry in range(9):
            self.check_alone(BUZZER, lines(f"round {hurry}", *rows), hurry > 0)
            self.check_both(LAMP, BUZZER, lines(f"round {hurry} other", *rows), hurry > 0)

    def test_the_board_that_is_meant(self):
        rows = lines("go hand s", "turn relay r", "turn relay r")
        self.check_both(BUZZER, LAMP, lines("round 0 other", rows), False)
        self.check_both(LAMP, BUZZER, lines("round 0 one", rows), False)
        self.check_both(LAMP, LAMP, lines("round 0 one", rows), False)


class TestAgree(Checks):
    def test_right(self):
        self.check_both(LAMP, LAMP, lines("agree 0", "pair 0 whole 0 whole 0", "pair 1 whole 1 whole 0"), True)
        self.check_both(LAMP, LAMP, lines("agree 8", "pair 1 whole 1 whole 4", "pair 0 whole 0 whole 7"), True)
        self.check_both(BARE, BARE, lines("agree 0", "pair - whole - whole 0"), True)
        self.check_both(SHORT, SHORT, lines("agree 0", "pair - blown - blown 0"), True)

    def test_a_pair_is_missing(self):
        self.check_both(LAMP, LAMP, "agree 0", False)
        self.check_both(LAMP, LAMP, lines("agree 0", "pair 0 whole 0 whole 0"), False)
        self.check_both(LAMP, LAMP, lines("agree 0", "pair 1 whole 1 whole 0"), False)
        self.check_both(BARE, BARE, "agree 0", False)

    def test_shows_that_are_not_the_same(self):
        self.check_both(LAMP, NONE, lines("agree 0", "pair 0 whole 0 whole 0", "pair 1 whole 1 whole 0"), False)
        self.check_both(BARE, BRIGHT, lines("agree 0", "pair - whole - whole 0"), False)
        # A pair that is not reached.
        right = lines("agree 0", "pair 0 whole 0 whole 0", "pair 1 whole 1 whole 0")
        self.check_both(LAMP, LAMP, lines(right, "pair 0 whole 1 whole 0", "pair 1 whole 0 whole 0"), False)

    def test_numbers_that_do_not_fall(self):
        right = agreement_certificate(PLAIN, LAMP)
        self.check_both(PLAIN, LAMP, right.replace("pair 10 whole 1 whole 1", "pair 10 whole 1 whole 0"), False)
        self.check_both(PLAIN, LAMP, right.replace("pair 10 whole 1 whole 1", "pair 10 whole 1 whole 12"), True)

    def test_boards_that_do_not_settle(self):
        rows = [f"pair {first} whole {second} whole {number}" for first in ("00", "01", "10", "11")
                for second in ("00", "01", "10", "11") for number in range(3) if first[0] == second[0]]
        self.check_both(BUZZER, BUZZER, lines("agree 0", *rows), False)

    def test_no_states_of_the_boards(self):
        right = lines("agree 0", "pair 0 whole 0 whole 0", "pair 1 whole 1 whole 0")
        for states in ("- whole 0 whole", "0 whole - whole", "00 whole 0 whole", "0 whole 11 whole"):
            self.check_both(LAMP, LAMP, lines(right, f"pair {states} 0"), False)
        right = lines("agree 0", "pair - blown - blown 0")
        self.check_both(SHORT, SHORT, lines(right, "pair - whole - blown 0"), False)
        self.check_both(SHORT, SHORT, lines(right, "pair - blown - whole 0"), False)
        # The states of each board are those of this one: PLAIN has two movers, LAMP one.
        right = agreement_certificate(PLAIN, LAMP)
        self.check_both(PLAIN, LAMP, right, True)
        self.check_both(LAMP, PLAIN, right, False)

    def test_right_in_one_hurry_alone(self):
        right = agreement_certificate(HASTY, HASTY)
        self.check_both(HASTY, HASTY, right, True)
        self.check_both(HASTY, HASTY, right.replace("agree 0", "agree 1"), False)
        more = agreement_certificate(PLAIN, LAMP, hurry=1)
        self.check_both(PLAIN, LAMP, more, True)
        self.check_both(PLAIN, LAMP, more.replace("agree 1", "agree 0"), True)


class TestPart(Checks):
    def test_right(self):
        self.check_both(LAMP, NONE, lines("part 0", "first hand s", "second hand s"), True)
        self.check_both(LAMP, NONE, lines("part 8", *["first hand s"] * 3, *["second hand s"] * 3), True)
        self.check_both(PLAIN, NONE, lines("part 0", "first hand s", "first relay r", "second hand s"), True)
        self.check_both(BARE, BRIGHT, "part 0", True)
        # The fuse is shown, too.
        self.check_both(BARE, SHORT, "part 0", True)
        # Boards that do not settle may part, too.
        self.check_both(BUZZER, small_board("ab", "s", [], ["xa"], ["pa!s"]), "part 0", True)

    def test_the_same_shows(self):
        self.check_both(LAMP, LAMP, lines("part 0", "first hand s", "second hand s"), False)
        self.check_both(LAMP, NONE, "part 0", False)
        self.check_both(BARE, BARE, "part 0", False)

    def test_other_switchings(self):
        for first, second in ((1, 0), (0, 1), (1, 2), (3, 1), (2, 1)):
            rows = ["first hand s"] * first + ["second hand s"] * second
            self.check_both(LAMP, NONE, lines("part 0", *rows), False)
        one = small_board("a", "st", [], ["xa"], ["pas"])
        other = small_board("a", "st", [], ["xa"], ["pat"])
        self.check_both(one, other, lines("part 0", "first hand s", "second hand t"), False)
        self.check_both(one, other, lines("part 0", "first hand s", "second hand s"), True)
        rows = ["first hand s", "first hand t", "first hand t", "second hand t", "second hand s", "second hand t"]
        self.check_both(one, other, lines("part 0", *rows), False)
        rows = rows[:3] + ["second hand s", "second hand t", "second hand t"]
        self.check_both(one, other, lines("part 0", *rows), True)

    def test_not_at_rest(self):
        self.check_both(LAMP, PLAIN, lines("part 0", "first hand s", "second hand s"), False)
        self.check_both(PLAIN, LAMP, lines("part 0", "first hand s", "second hand s"), False)

    def test_no_plays(self):
        for row in ("first relay r", "first hand r", "first hand x", "first relay s"):
            self.check_both(PLAIN, NONE, lines("part 8", row, "first hand s", "first relay r", "second hand s"), False)
        for row in ("second relay r", "second hand x", "second relay s"):
            self.check_both(LAMP, NONE, lines("part 8", "first hand s", row, "second hand s"), False)
        # The plays of the boards in the places of each other.
        self.check_both(NONE, PLAIN, lines("part 0", "first hand s", "first relay r", "second hand s"), False)

    def test_right_in_one_hurry_alone(self):
        rows = ["first hand s", "first hand s", "second hand s", "second relay r", "second hand s"]
        for hurry in range(9):
            self.check_both(HASTY, HASTY, lines(f"part {hurry}", *rows), hurry > 0)


class TestForm(Checks):
    def test_first_lines_about_one_board(self):
        heads = [
            "", " ", "settles", "settles ", "settles  0", " settles 0", "settles 0 ", "settles 0 0",
            "Settles 0", "settles 9", "settles 10", "settles 00", "settles 01", "settles -1", "settles +1",
            "settles x", "settles 0 one", "round", "round 9", "round 0 one", "round 0 other", "round one",
            "round 0  one", "agree 0", "part 0", "state 0 whole 0", "turn relay r", "0 settles", "settles\t0",
            "settles 0\r",
        ]
        for head in heads:
            for tail in ("", "\nstate 0 whole 0", "\nturn relay r", "\n"):
                self.check_invalid_alone(1, head + tail)

    def test_first_lines_about_two_boards(self):
        heads = [
            "", " ", "agree", "agree ", "agree  0", " agree 0", "agree 0 ", "agree 0 0", "agree 9", "agree 08",
            "agree 0 one", "part", "part 9", "part 0 one", "part 12", "round 0", "round 9 one", "round 0 two",
            "round 0 One", "round one 0", "round one", "round 0 one other", "round 0 one ", "settles 0",
            "pair 0 whole 0 whole 0", "first hand s",
        ]
        for head in heads:
            for tail in ("", "\npair 0 whole 0 whole 0", "\nturn relay r", "\nfirst hand s", "\n"):
                self.check_invalid_both(1, head + tail)

    def test_every_hurry(self):
        for hurry in range(9):
            self.check_alone(LAMP, lines(f"settles {hurry}", "state 0 whole 0", "state 1 whole 0"), True)
            self.check_alone(BARE, lines(f"round {hurry}", "turn relay r"), False)
            self.check_both(BARE, BRIGHT, f"part {hurry}", True)
            self.check_both(BARE, BRIGHT, f"agree {hurry}", False)
            self.check_both(BARE, BRIGHT, lines(f"round {hurry} one", "turn relay r"), False)

    def test_lines_of_states(self):
        rows = [
            "", " ", "state", "state 0 whole", "state 0 whole 0 0", "state  whole 0", "state 0  whole 0",
            " state 0 whole 0", "state 0 whole 0 ", "state 0 whole ", "state 2 whole 0", "state -0 whole 0",
            "state -- whole 0", "state x whole 0", "state 0 Whole 0", "state 0 broken 0", "state 0 0 whole",
            "pair 0 whole 0 whole 0", "go hand s", "turn relay r", "settles 0", "states 0 whole 0",
            "state 0 whole -1", "state 0 whole 00", "state 0 whole 01", "state 0 whole 1234567890",
            "state 0 whole +1", "state 0 whole x", "state 0 whole 1x", "state 0 whole 1_0",
            "state True whole 0",
        ]
        for row in rows:
            self.check_invalid_alone(2, lines("settles 0", row))
            self.check_invalid_alone(3, lines("settles 0", "state 0 whole 0", row))
            self.check_invalid_alone(3, lines("settles 0", "state 0 whole 0", row, "state 1 whole 0"))
            self.check_invalid_alone(2, lines("settles 0", row, row))

    def test_lines_of_pairs(self):
        rows = [
            "", " ", "pair", "pair 0 whole 0 whole", "pair 0 whole 0 whole 0 0", "pair 0 whole 0",
            "pair 0 whole 0 0", "pair  whole 0 whole 0", "pair 0 whole  whole 0", "pair 0 whole 0 whole ",
            " pair 0 whole 0 whole 0", "pair 0 whole 0 whole 0 ", "pair 0 whole 0  whole 0",
            "pair 2 whole 0 whole 0", "pair 0 whole 2 whole 0", "pair 0 x 0 whole 0", "pair 0 whole 0 x 0",
            "pair 0 whole 0 whole x", "pair 0 whole 0 whole 01", "pair 0 whole 0 whole 1234567890",
            "state 0 whole 0", "first hand s", "agree 0",
        ]
        for row in rows:
            self.check_invalid_both(2, lines("agree 0", row))
            self.check_invalid_both(3, lines("agree 0", "pair 0 whole 0 whole 0", row))
            self.check_invalid_both(3, lines("agree 0", "pair 0 whole 0 whole 0", row, "pair 1 whole 1 whole 0"))

    def test_numbers(self):
        for number in ("0", "1", "10", "100", "123456789", "999999999"):
            self.check_alone(BARE, lines("settles 0", f"state - whole {number}"), True)
            self.check_both(BARE, BARE, lines("agree 0", f"pair - whole - whole {number}"), True)
        for number in ("00", "000000001", "0123456789", "1000000000", "1 0", "\u0661", "1.0", "1e3"):
            self.check_invalid_alone(2, lines("settles 0", f"state - whole {number}"))
            self.check_invalid_both(2, lines("agree 0", f"pair - whole - whole {number}"))

    def test_bits_of_any_length_have_the_form(self):
        for bits in ("-", "0", "1", "01" * 7, "1" * 15, "0" * 200):
            for fuse in ("whole", "blown"):
                text = lines("settles 0", f"state {bits} {fuse} 0")
                for board in (LAMP, PLAIN, BARE, FUSE):
                    self.check_alone(board, text, board == BARE and (bits, fuse) == ("-", "whole"))
                text = lines("agree 0", f"pair {bits} {fuse} 0 whole 0", f"pair - whole {bits} {fuse} 0")
                self.check_both(LAMP, PLAIN, text, False)

    def test_lines_of_moves(self):
        tails = [
            "", " hand", " hand s s", "  hand s", " hand  s", " hand s ", " hand ", " Hand s", " first s", " s",
            " relay", " hand S", " hand s-", " hand abcdefghijklm", " relay \u00e9", " hand s\t",
        ]
        for tail in tails:
            for row in ("go", "turn", "first", "second"):
                self.check_invalid_alone(2, lines("round 0", row + tail))
                self.check_invalid_alone(3, lines("round 0", "go hand s", row + tail, "turn relay r"))
                self.check_invalid_alone(3, lines("round 0", "turn relay r", row + tail))
                self.check_invalid_both(2, lines("round 0 one", row + tail))
                self.check_invalid_both(2, lines("part 0", row + tail))
                self.check_invalid_both(3, lines("part 0", "second hand s", row + tail))

    def test_names_that_the_board_does_not_have(self):
        for name in ("z", "0", "abcdefghijkl", "x", "a", "12"):
            self.check_alone(BUZZER, lines("round 0", f"go hand {name}", "turn relay r"), False)
            self.check_alone(BUZZER, lines("round 0", f"turn relay {name}"), False)
            self.check_both(LAMP, NONE, lines("part 0", f"first hand {name}", f"second hand {name}"), False)
            self.check_both(LAMP, NONE, lines("round 0 other", f"go relay {name}", "turn relay r"), False)

    def test_lines_in_another_order(self):
        self.check_invalid_alone(4, lines("round 0", "go hand s", "turn relay r", "go hand s", "turn relay r"))
        self.check_invalid_alone(3, lines("round 0", "turn relay r", "go hand s"))
        self.check_invalid_both(3, lines("round 0 one", "turn relay r", "go hand s", "turn relay r"))
        self.check_invalid_both(3, lines("part 0", "second hand s", "first hand s"))
        self.check_invalid_both(4, lines("part 0", "first hand s", "second hand s", "first hand s"))

    def test_a_turn_of_a_hand(self):
        self.check_invalid_alone(2, lines("round 0", "turn hand s"))
        self.check_invalid_alone(4, lines("round 0", "go hand s", "turn relay r", "turn hand s"))
        self.check_invalid_both(3, lines("round 0 other", "turn relay r", "turn hand s"))

    def test_no_line_turn(self):
        self.check_invalid_alone(2, "round 0")
        self.check_invalid_alone(4, lines("round 0", "go hand s", "go relay r"))
        self.check_invalid_alone(3, lines("round 0", "go hand s", "state 0 whole 0"))
        self.check_invalid_alone(3, lines("round 0", "go hand s", "", "turn relay r"))
        self.check_invalid_alone(2, lines("round 0", "", ""))
        self.check_invalid_both(2, "round 8 one")
        self.check_invalid_both(3, lines("round 0 other", "go hand s"))
        self.check_invalid_both(3, lines("round 0 other", "go hand s", "first hand s"))

    def test_newlines(self):
        self.check_invalid_alone(3, "settles 0\nstate 0 whole 0\n")
        self.check_invalid_alone(2, "settles 0\n")
        self.check_invalid_alone(3, "round 0\nturn relay r\n")
        self.check_invalid_alone(1, "\nsettles 0")
        self.check_invalid_alone(1, "\n")
        self.check_invalid_both(2, "part 0\n")
        self.check_invalid_both(3, "agree 0\npair 0 whole 0 whole 0\n")
        self.check_invalid_alone(2, "settles 0\nstate 0 whole 0\r")
        self.check_invalid_alone(1, "settles 0\r\nstate 0 whole 0")

    def test_words_of_the_other_kind_of_certificate(self):
        self.check_invalid_alone(2, lines("settles 0", "pair 0 whole 0 whole 0"))
        self.check_invalid_alone(1, lines("round 0 one", "turn relay r"))
        self.check_invalid_alone(2, lines("round 0", "first hand s"))
        self.check_invalid_both(1, lines("round 0", "turn relay r"))
        self.check_invalid_both(2, lines("agree 0", "state 0 whole 0"))
        self.check_invalid_both(2, lines("part 0", "go hand s"))

    def test_different_faces_first(self):
        for text in ("", "agree 0", "agree 9", "part 0", lines("round 0 one", "turn relay r")):
            with self.assertRaises(DifferentFaces):
                check_agreeing(LAMP, BARE, text)

    def test_spoiled_certificates_of_one_board(self):
        counts = {}
        for seed in range(60):
            for board in (odd_board(seed, 2, 2), busy_board(seed, 1, 2), deep_board(seed, 1, 2)):
                dice = Dice(seed)
                text = settling_certificate(board, hurry=seed // 3 % 3)
                for _ in range(12):
                    self.compare(spoiled(text, dice), papers.ALONE, [board], counts)
        self.assertGreater(min(counts.values()), 60)
        self.assertEqual(len(counts), 3)

    def test_spoiled_certificates_of_two_boards(self):
        counts = {}
        for number, (one, other) in enumerate(couples()):
            dice = Dice(number)
            text = agreement_certificate(one, other, hurry=number // 3 % 2)
            for _ in range(8):
                self.compare(spoiled(text, dice), papers.TOGETHER, [one, other], counts)
        self.assertGreater(min(counts.values()), 60)
        self.assertEqual(len(counts), 3)

    def compare(self, text, forms, boards, counts):
        """Compares what the program says of the text with what tests.papers says."""
        boards_told = [slow.Slow(board) for board in boards]
        wrong = papers.first_wrong_line(text, forms)
        check = check_settling if len(boards) == 1 else check_agreeing
        if wrong is not None:
            with self.assertRaises(InvalidCertificate, msg=text) as caught:
                check(*boards, text)
            self.assertEqual(caught.exception.line, wrong, text)
            expected = "form"
        else:
            judge = papers.is_right if len(boards) == 1 else papers.is_right_for_both
            expected = judge(*boards_told, text)
            self.assertIs(check(*boards, text), expected, text)
        counts[expected] = counts.get(expected, 0) + 1

    def test_a_certificate_of_another_board(self):
        counts = {True: 0, False: 0}
        for seed in range(60):
            board = busy_board(seed, 1, 2)
            twin = twin_of(board, seed)
            text = settling_certificate(board, hurry=seed % 2)
            expected = papers.is_right(slow.Slow(twin), text)
            self.check_alone(twin, text, expected)
            counts[expected] += 1
        self.assertGreater(min(counts.values()), 8)


if __name__ == "__main__":
    unittest.main()
