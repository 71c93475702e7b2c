import unittest

from leverhouse.agree import agree
from leverhouse.boards import Board
from leverhouse.errors import NotDeterminate, TooMany, UnknownName
from leverhouse.tidy import Tidied, check_tidied, idle_relays, tidy, without_relay
from tests import slow, slow_faults
from tests.checks import check_defaults, check_limits, determinate_in
from tests.samples import (
    board_like,
    bridge_board,
    busy_board,
    deep_board,
    odd_board,
    parts_of,
    small_board,
    small_contact,
)

LAMP = small_board("a", "s", [], ["xa"], ["pas"])
DOUBLE = small_board("a", "s", [], ["xa"], ["pas", "pas>"])
# The contacts that make and that break do together what the wire does alone.
COVER = small_board("a", "s", [], ["xa"], ["pas", "pa!s", "pa-"])
# Without the wire the second contact makes the relay buzz.
CALMED = small_board("ab", "s", ["ra"], ["xb"], ["pa-", "pa!r", "pbs"])
# The relay closes what the switch closes, too.
HELPED = small_board("ab", "s", ["ra"], ["xb"], ["pas", "pbr", "pbs"])
# The lamp shows the relay.
FOLLOWED = small_board("ab", "s", ["ra"], ["xb"], ["pas", "pbr"])
# Each of the two relays can stand for the other one.
TWINS = small_board("abc", "s", ["ra", "qb"], ["xc"], ["pas", "pbs", "pcr", "pcq"])
# The relay holds itself, if it is given the time to come up.
HASTY = small_board("a", "s", ["ra"], ["xa"], ["pas", "par"])
BUZZER = small_board("a", "s", ["ra"], ["xa"], ["pa!r"])
# Contacts of the relay r of each kind and way, between contacts of other movers.
KINDS = Board(
    nodes=["p", "m", "a", "b", "c"],
    switches=["s"],
    relays=[("q", "c", "m"), ("r", "a", "m"), ("t", "m", "b")],
    lamps=[("x", "b", "m"), ("y", "a", "c")],
    contacts=[
        ("p", "a", "s", "make", "both"),
        ("p", "b", "r", "make", "both"),
        ("p", "b", "r", "break", "both"),
        ("c", "b", "r", "make", "forward"),
        ("c", "b", "r", "break", "forward"),
        ("b", "c", None, "make", "forward"),
        ("a", "c", "q", "break", "both"),
        ("a", "c", "t", "make", "both"),
    ],
)


def many_boards():
    for seed in range(20):
        yield odd_board(seed, 2, 2, 6)
        yield busy_board(seed, 2, 2)
        yield deep_board(seed, 1, 2)
        yield bridge_board(seed)


class SlowTidy:
    """A board that is tidied by trying everything, and the greatest of what is counted."""

    def __init__(self, board, hurry):
        self.board = board
        self.hurry = hurry
        self.left = list(range(len(board.contacts)))
        self.removed = []
        self.count = slow.agree_count(slow.Slow(board), slow.Slow(board), hurry)
        while self.remove_one():
            pass

    def kept(self, numbers):
        return slow.Slow(board_like(self.board, contacts=[self.board.contacts[number] for number in numbers]))

    def remove_one(self):
        now = self.kept(self.left)
        for number in self.left:
            fewer = self.kept([other for other in self.left if other != number])
            self.count = max(self.count, slow.agree_count(now, fewer, self.hurry))
            if slow.agree(now, fewer, self.hurry) is None:
                self.left.remove(number)
                self.removed.append(number)
                return True
        return False


class TestTidied(unittest.TestCase):
    def test_fields(self):
        for kind in (list, tuple):
            tidied = Tidied(LAMP, kind([2, 0]))
            self.assertIs(tidied.board, LAMP)
            self.assertEqual(tidied.removed, (2, 0))
            self.assertIs(type(tidied.removed), tuple)
            self.assertEqual(Tidied(LAMP, kind([])).removed, ())

    def test_the_list_may_change_later(self):
        numbers = [1, 0]
        tidied = Tidied(LAMP, numbers)
        numbers.append(2)
        numbers[0] = 7
        self.assertEqual(tidied.removed, (1, 0))


class TestTidy(unittest.TestCase):
    def check(self, board, removed, **given):
        before = parts_of(board)
        tidied = tidy(board, **given)
        self.assertIsInstance(tidied, Tidied)
        self.assertEqual((tidied.removed, type(tidied.removed)), (tuple(removed), tuple))
        kept = [contact for number, contact in enumerate(board.contacts) if number not in removed]
        self.assertIsInstance(tidied.board, Board)
        self.assertEqual(parts_of(tidied.board), parts_of(board_like(board, contacts=kept)))
        self.assertEqual(parts_of(board), before)

    def test_no_contact_is_idle(self):
        self.check(LAMP, [])
        self.check(small_board("a", "s", [], ["xa"], []), [])
        self.check(FOLLOWED, [])
        self.check(small_board("ab", "st", [], ["xa", "yb"], ["pas", "pbt", "ab-"]), [])

    def test_the_least_number_first(self):
        self.check(DOUBLE, [0])
        self.check(small_board("a", "s", [], ["xa"], ["pas", "pas", "pas"]), [0, 1])
        # The wire is idle as well, but no longer once the contact that makes is removed.
        self.check(COVER, [0, 1])
        self.check(small_board("a", "s", [], ["xa"], ["pa-", "pas", "pa!s"]), [0])
        self.check(HELPED, [0, 1])

    def test_numbers_of_the_first_board(self):
        # Contacts to where nothing is, on both sides of one that is needed.
        board = small_board("abc", "s", [], ["xa"], ["bcs", "pas", "bc-", "ab-"])
        self.check(board, [0, 2, 3])
        board = small_board("ab", "s", [], ["xa"], ["pas", "pb-", "pas", "pbs"])
        self.check(board, [0, 1, 3])

    def test_an_earlier_contact_is_idle_once_a_later_one_is_removed(self):
        self.check(CALMED, [1, 0])
        # From there on it begins with the least number again.
        board = small_board("ab", "s", ["ra"], ["xb"], ["pa-", "pa!r", "pbs", "pbs"])
        self.check(board, [1, 0, 2])
        self.check(busy_board(36, 2, 2), [1, 0])
        self.check(deep_board(1, 1, 2), [0, 1, 4, 5, 2, 3, 6, 7, 8, 9])

    def test_relays_stay(self):
        self.assertEqual(tidy(HELPED).board.relays, (("r", "a", "m"),))

    def test_in_several_hurries(self):
        self.check(HASTY, [])
        with self.assertRaises(NotDeterminate):
            tidy(HASTY, hurry=1)
        self.check(DOUBLE, [0], hurry=8)
        # Who waits for rest does not need the first contact.
        board = busy_board(395, 1, 2)
        self.check(board, [0, 2])
        self.check(board, [2], hurry=1)

    def test_not_determinate(self):
        for board in (BUZZER, small_board("ab", "", ["ra"], ["xb"], ["pa!r"])):
            for hurry in (0, 8):
                with self.assertRaises(NotDeterminate):
                    tidy(board, hurry=hurry)

    def test_on_many_boards(self):
        removed, out_of_order = {}, 0
        for board, hurry in determinate_in(many_boards()):
            by_trying = SlowTidy(board, hurry)
            self.check(board, by_trying.removed, hurry=hurry)
            removed[len(by_trying.removed)] = True
            out_of_order += by_trying.removed != sorted(by_trying.removed)
        self.assertGreater(len(removed), 4)
        self.assertGreater(out_of_order, 0)

    def test_what_is_left_agrees_and_has_no_idle_contact(self):
        for board, hurry in determinate_in(many_boards()):
            tidied = tidy(board, hurry=hurry)
            self.assertIsNone(agree(board, tidied.board, hurry=hurry))
            for number in range(len(tidied.board.contacts)):
                self.assertIsNotNone(agree(tidied.board, tidied.board.without_contact(number), hurry=hurry))
            self.assertEqual(tidy(tidied.board, hurry=hurry).removed, ())
            self.assertIs(check_tidied(board, tidied, hurry=hurry), True)

    def test_limits(self):
        check_defaults(self, tidy)
        for board, hurry in list(determinate_in(many_boards()))[::5]:
            count = SlowTidy(board, hurry).count
            check_limits(self, count, lambda limit: tidy(board, hurry=hurry, limit=limit))

    def test_too_many_for_the_board_alone(self):
        # Too many states come before the race.
        for limit in (1, 4, 7):
            with self.assertRaises(TooMany) as caught:
                tidy(BUZZER, hurry=1, limit=limit)
            self.assertEqual(caught.exception.limit, limit)
        with self.assertRaises(NotDeterminate):
            tidy(BUZZER, hurry=1, limit=8)

    def test_too_many_for_a_board_with_a_contact_less(self):
        # The wire keeps the fuse blown and all at rest; without it the relay moves.
        board = small_board("a", "st", ["ra"], ["xa"], ["pm-", "pas"])
        tidy(board)
        with self.assertRaises(TooMany):
            tidy(board, limit=4)


class TestWithoutRelay(unittest.TestCase):
    def test_contacts_of_all_kinds(self):
        found = without_relay(KINDS, "r")
        self.assertIsInstance(found, Board)
        contacts = [
            ("p", "a", "s", "make", "both"),
            ("p", "b", None, "make", "both"),
            ("c", "b", None, "make", "forward"),
            ("b", "c", None, "make", "forward"),
            ("a", "c", "q", "break", "both"),
            ("a", "c", "t", "make", "both"),
        ]
        relays = [("q", "c", "m"), ("t", "m", "b")]
        self.assertEqual(parts_of(found), parts_of(board_like(KINDS, relays=relays, contacts=contacts)))

    def test_other_relays(self):
        found = without_relay(KINDS, "q")
        self.assertEqual(found.relays, (("r", "a", "m"), ("t", "m", "b")))
        self.assertEqual(found.contacts[:6], KINDS.contacts[:6])
        self.assertEqual(found.contacts[6:], (("a", "c", None, "make", "both"), KINDS.contacts[7]))
        found = without_relay(KINDS, "t")
        self.assertEqual(found.relays, (("q", "c", "m"), ("r", "a", "m")))
        self.assertEqual(found.contacts, KINDS.contacts[:7])

    def test_the_board_stays_as_it_is(self):
        before = parts_of(KINDS)
        without_relay(KINDS, "r")
        self.assertEqual(parts_of(KINDS), before)

    def test_boards_that_are_not_determinate(self):
        self.assertEqual(without_relay(BUZZER, "r").contacts, (("p", "a", None, "make", "both"),))
        self.assertEqual(without_relay(BUZZER, "r").relays, ())

    def test_unknown_names(self):
        # The names of a switch, of a lamp, of a node and of nothing.
        for name in ("s", "x", "y", "a", "p", "z", "", "R", "rr"):
            with self.assertRaises(UnknownName) as caught:
                without_relay(KINDS, name)
            self.assertEqual(caught.exception.name, name)
        with self.assertRaises(UnknownName):
            without_relay(LAMP, "r")

    def test_a_lamp_and_a_node_of_the_same_name(self):
        board = small_board("a", "s", ["aa"], ["aa"], ["pas", "pa!a"])
        self.assertEqual(without_relay(board, "a").contacts, (small_contact("pas"), small_contact("pa-")))

    def test_on_many_boards(self):
        for board in many_boards():
            for name, _, _ in board.relays:
                expected = slow_faults.faulty(board, ("coil", name))
                self.assertEqual(parts_of(without_relay(board, name)), parts_of(expected))


class TestIdleRelays(unittest.TestCase):
    def test_ordinary_ones(self):
        self.assertEqual(idle_relays(HELPED), ["r"])
        self.assertEqual(idle_relays(FOLLOWED), [])
        self.assertEqual(idle_relays(LAMP), [])
        self.assertEqual(idle_relays(HASTY), [])

    def test_each_by_itself(self):
        self.assertEqual(idle_relays(TWINS), ["r", "q"])
        self.assertEqual(idle_relays(without_relay(TWINS, "r")), [])
        self.assertEqual(idle_relays(without_relay(TWINS, "q")), [])

    def test_the_order_of_the_board(self):
        turned = small_board("abc", "s", ["qb", "ra"], ["xc"], ["pas", "pbs", "pcr", "pcq"])
        self.assertEqual(idle_relays(turned), ["q", "r"])
        several = small_board("abcd", "s", ["zb", "kc", "ad"], ["xa"], ["pas", "pcs", "pak"])
        self.assertEqual(idle_relays(several), ["z", "k", "a"])
        several = small_board("abcd", "s", ["zb", "kc", "ad"], ["xa"], ["pcs", "pak", "pds"])
        self.assertEqual(idle_relays(several), ["z", "a"])

    def test_a_relay_that_breaks_is_a_wire_if_it_is_missing(self):
        # With s the relay goes up and takes the lamp away; without the relay the lamp stays lit.
        board = small_board("ab", "s", ["ra"], ["xb"], ["pas", "pb!r"])
        self.assertEqual(idle_relays(board), [])
        # Nothing ever moves this one.
        board = small_board("ab", "s", ["ra"], ["xb"], ["pb!r"])
        self.assertEqual(idle_relays(board), ["r"])

    def test_not_determinate(self):
        for board in (BUZZER, small_board("ab", "", ["rb", "qa"], ["xb"], ["pa!q"])):
            for hurry in (0, 8):
                with self.assertRaises(NotDeterminate):
                    idle_relays(board, hurry=hurry)
        with self.assertRaises(NotDeterminate):
            idle_relays(HASTY, hurry=1)

    def test_in_several_hurries(self):
        for hurry in (0, 1, 8):
            self.assertEqual(idle_relays(FOLLOWED, hurry=hurry), [])
            self.assertEqual(idle_relays(HELPED, hurry=hurry), ["r"])
        board = busy_board(395, 1, 2)
        self.assertEqual((idle_relays(board), idle_relays(board, hurry=1)), (["r1"], []))

    def test_on_many_boards(self):
        counts = {}
        for board, hurry in determinate_in(many_boards()):
            whole = slow.Slow(board)
            expected = []
            for name, _, _ in board.relays:
                fewer = slow.Slow(slow_faults.faulty(board, ("coil", name)))
                if slow.agree(whole, fewer, hurry) is None:
                    expected.append(name)
            found = idle_relays(board, hurry=hurry)
            self.assertEqual((found, type(found)), (expected, list))
            counts[len(expected), len(board.relays)] = True
        self.assertLessEqual({(1, 1), (0, 2), (1, 2), (2, 2)}, set(counts))

    def test_limits(self):
        check_defaults(self, idle_relays)
        # More is counted for the last board without a relay than for the board alone.
        for board, hurry in [*list(determinate_in(many_boards()))[::5], (busy_board(100, 2, 2), 0)]:
            whole = slow.Slow(board)
            count = slow.agree_count(whole, whole, hurry)
            for name, _, _ in board.relays:
                fewer = slow.Slow(slow_faults.faulty(board, ("coil", name)))
                count = max(count, slow.agree_count(whole, fewer, hurry))
            check_limits(self, count, lambda limit: idle_relays(board, hurry=hurry, limit=limit))

    def test_boards_without_relays_are_asked_for_too(self):
        with self.assertRaises(TooMany) as caught:
            idle_relays(LAMP, limit=1)
        self.assertEqual(caught.exception.limit, 1)
        self.assertEqual(idle_relays(LAMP, limit=2), [])
        with self.assertRaises(TooMany):
            idle_relays(BUZZER, hurry=1, limit=7)


class TestCheckTidied(unittest.TestCase):
    def check(self, board, left, removed, expected, **given):
        for kind in (list, tuple):
            tidied = Tidied(left, kind(removed))
            self.assertIs(check_tidied(board, tidied, **given), expected)
            self.assertEqual(tidied.removed, tuple(removed))

    def cut(self, board, *removed):
        """The board without the contacts of these numbers."""
        kept = [contact for number, contact in enumerate(board.contacts) if number not in removed]
        return board_like(board, contacts=kept)

    def test_right_ones(self):
        self.check(DOUBLE, self.cut(DOUBLE, 0), [0], True)
        self.check(DOUBLE, self.cut(DOUBLE, 1), [1], True)
        self.check(LAMP, LAMP, [], True)
        self.check(CALMED, self.cut(CALMED, 0, 1), [1, 0], True)
        # Contacts that are left may be idle.
        self.check(DOUBLE, DOUBLE, [], True)
        self.check(COVER, self.cut(COVER, 0), [0], True)
        self.check(COVER, self.cut(COVER, 2), [2], True)

    def test_numbers_in_another_order(self):
        board = small_board("a", "s", [], ["xa"], ["pas", "pas", "pas", "pas"])
        for removed in ([0, 1, 2], [2, 0, 1], [2, 1, 0], [3, 0, 1]):
            self.check(board, LAMP, removed, True)
        self.check(CALMED, self.cut(CALMED, 0, 1), [0, 1], True)

    def test_a_number_twice(self):
        self.check(DOUBLE, self.cut(DOUBLE, 0), [0, 0], False)
        self.check(COVER, self.cut(COVER, 0, 1), [0, 1, 0], False)
        self.check(small_board("a", "s", [], ["xa"], ["pas"] * 3), LAMP, [0, 1, 1], False)

    def test_numbers_of_no_contact(self):
        for number in (-3, -2, -1, 2, 3, 40):
            self.check(DOUBLE, DOUBLE, [number], False)
            self.check(DOUBLE, self.cut(DOUBLE, 0), [0, number], False)
            self.check(DOUBLE, self.cut(DOUBLE, 0), [number, 0], False)
            self.check(DOUBLE, self.cut(DOUBLE, 1), [number], False)
        empty = small_board("a", "s", [], ["xa"], [])
        self.check(empty, empty, [], True)
        self.check(empty, empty, [0], False)

    def test_a_contact_less_or_more(self):
        self.check(DOUBLE, self.cut(DOUBLE, 0), [], False)
        self.check(DOUBLE, DOUBLE, [0], False)
        self.check(COVER, self.cut(COVER, 0, 1), [0], False)
        self.check(COVER, self.cut(COVER, 0), [0, 1], False)
        self.check(LAMP, LAMP.insert_contact(1, small_contact("pas")), [], False)
        self.check(LAMP, LAMP.insert_contact(0, small_contact("pa-")), [], False)

    def test_contacts_otherwise(self):
        # Each of these boards agrees with the first one.
        self.check(DOUBLE, LAMP, [0], False)
        self.check(DOUBLE, self.cut(DOUBLE, 0), [1], False)
        self.check(DOUBLE, board_like(DOUBLE, contacts=DOUBLE.contacts[::-1]), [], False)
        self.check(LAMP, LAMP.replace_contact(0, ("a", "p", "s", "make", "both")), [], False)
        self.check(LAMP, LAMP.replace_contact(0, ("p", "a", "s", "make", "forward")), [], False)
        board = small_board("a", "st", [], ["xa"], ["pas", "pat", "pas"])
        self.check(board, self.cut(board, 0), [0], True)
        self.check(board, self.cut(board, 0), [2], False)
        self.check(board, self.cut(board, 2), [0], False)

    def test_other_parts(self):
        left = self.cut(HELPED, 0, 1)
        self.check(HELPED, left, [0, 1], True)
        for parts in (
            {"nodes": ["p", "m", "b", "a"]},
            {"nodes": ["p", "m", "a", "b", "c"]},
            {"switches": ["s", "t"]},
            {"relays": []},
            {"relays": [("r", "m", "a")]},
            {"relays": [("q", "a", "m")]},
            {"relays": [("r", "a", "m"), ("q", "a", "m")]},
            {"lamps": [("x", "m", "b")]},
            {"lamps": [("y", "b", "m")]},
            {"lamps": [("x", "b", "m"), ("y", "b", "m")]},
        ):
            self.check(HELPED, board_like(left, **parts), [0, 1], False)

    def test_other_faces(self):
        two = small_board("a", "st", [], ["xa"], ["pas"])
        for other in (two, board_like(two, switches=["t", "s"]), board_like(two, lamps=[("y", "a", "m")])):
            self.check(LAMP, other, [], False)
        self.check(two, board_like(two, switches=["t", "s"]), [], False)

    def test_boards_that_do_not_agree(self):
        self.check(LAMP, self.cut(LAMP, 0), [0], False)
        self.check(DOUBLE, self.cut(DOUBLE, 0, 1), [0, 1], False)
        # Without the wire the relay buzzes.
        self.check(CALMED, self.cut(CALMED, 0), [0], False)
        self.check(HASTY, self.cut(HASTY, 1), [1], False)

    def test_first_boards_that_are_not_determinate(self):
        self.check(BUZZER, BUZZER, [], False)
        self.check(BUZZER, self.cut(BUZZER, 0), [0], False)
        self.check(HASTY, HASTY, [], True)
        self.check(HASTY, HASTY, [], False, hurry=1)
        self.check(HASTY, self.cut(HASTY, 1), [1], False, hurry=8)

    def test_no_search_if_the_parts_do_not_fit(self):
        for left, removed in (
            (LAMP, [0]),
            (DOUBLE, [0]),
            (DOUBLE, [2]),
            (DOUBLE, [-1]),
            (self.cut(DOUBLE, 0), [0, 0]),
            (board_like(DOUBLE, nodes=["p", "m", "a", "b"]), []),
            (board_like(DOUBLE, switches=["s", "t"]), []),
            (board_like(DOUBLE, relays=[("r", "a", "m")]), []),
            (board_like(DOUBLE, lamps=[("x", "m", "a")]), []),
            (board_like(DOUBLE, lamps=[("y", "a", "m")]), []),
        ):
            self.check(DOUBLE, left, removed, False, limit=1)

    def test_limits(self):
        check_defaults(self, check_tidied)
        for board, hurry in list(determinate_in(many_boards()))[::5]:
            tidied = tidy(board, hurry=hurry)
            count = slow.agree_count(slow.Slow(board), slow.Slow(tidied.board), hurry)
            check_limits(self, count, lambda limit: check_tidied(board, tidied, hurry=hurry, limit=limit))
        # Also for boards that do not agree.
        check_limits(self, 8, lambda limit: check_tidied(BUZZER, Tidied(BUZZER, []), hurry=1, limit=limit))

    def test_on_many_boards(self):
        counts = {True: 0, False: 0}
        for board in many_boards():
            for hurry in (0, 1):
                whole = slow.Slow(board)
                for number in range(len(board.contacts)):
                    left = self.cut(board, number)
                    expected = slow.agree(whole, slow.Slow(left), hurry) is None
                    self.check(board, left, [number], expected, hurry=hurry)
                    counts[expected] += 1
        self.assertGreater(min(counts.values()), 50)

    def test_arguments_stay_as_they_are(self):
        tidied = Tidied(self.cut(DOUBLE, 0), [0])
        before = (parts_of(DOUBLE), parts_of(tidied.board), tidied.removed)
        check_tidied(DOUBLE, tidied)
        self.assertEqual((parts_of(DOUBLE), parts_of(tidied.board), tidied.removed), before)


if __name__ == "__main__":
    unittest.main()
