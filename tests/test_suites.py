import unittest

from leverhouse.errors import NotDeterminate, TooMany, UnknownName, UnknownNumber
from leverhouse.faults import Seen, all_faults, fault_verdict, shown_by
from leverhouse.suites import check_suite, seen_faults, suite
from tests import slow_faults
from tests.checks import check_defaults, check_limits, determinate_in
from tests.samples import (
    bridge_board,
    busy_board,
    deep_board,
    odd_board,
    parts_of,
    small_board,
)

LAMP = small_board("a", "s", [], ["xa"], ["pas"])
# Each switch has its lamp.
TWO = small_board("ab", "st", [], ["xa", "yb"], ["pas", "pbt"])
# The lamp needs both switches.
ROW = small_board("ab", "st", [], ["xb"], ["pas", "abt"])
# The relay holds itself, if it is given the time to come up.
HASTY = small_board("a", "s", ["ra"], ["xa"], ["pas", "par"])
# The contact that breaks would make the relay buzz, if the wire did not hold it.
QUIET = small_board("ab", "s", ["ra"], ["xb"], ["pbs", "pa!r", "pa-"])
BUZZER = small_board("a", "s", ["ra"], ["xa"], ["pa!r"])
IDLE = small_board("a", "s", [], ["xa"], ["pa-", "pas"])
# The switch s lights x and puts y out; a fault of either contact is seen behind it.
SWAP = small_board("ab", "s", [], ["xa", "yb"], ["pas", "pb!s"])


def many_boards():
    for seed in range(16):
        yield odd_board(seed, 2, 2, 7)
        yield busy_board(seed, 2, 2)
        yield deep_board(seed, 2, 1)
        yield bridge_board(seed)


class TestSeenFaults(unittest.TestCase):
    def test_ordinary_ones(self):
        self.assertEqual(seen_faults(LAMP, all_faults(LAMP)), [(("open", 0), ["s"]), (("closed", 0), [])])
        expected = [(("open", 0), ["s", "t"]), (("open", 1), ["s", "t"])]
        expected += [(("closed", 0), ["t"]), (("closed", 1), ["s"])]
        self.assertEqual(seen_faults(ROW, all_faults(ROW)), expected)
        self.assertEqual(seen_faults(IDLE, all_faults(IDLE)), [(("open", 0), [])])
        self.assertEqual(seen_faults(IDLE, []), [])
        self.assertEqual(seen_faults(small_board(), []), [])

    def test_a_restless_fault_is_not_seen(self):
        faults = all_faults(QUIET)
        self.assertEqual(seen_faults(QUIET, [("open", 2)]), [])
        self.assertEqual(seen_faults(QUIET, faults), [(("open", 0), ["s"]), (("closed", 0), [])])

    def test_the_order_of_the_list(self):
        faults = [("closed", 1), ("open", 1), ("closed", 0)]
        expected = [(("closed", 1), ["s"]), (("open", 1), ["s", "t"]), (("closed", 0), ["t"])]
        self.assertEqual(seen_faults(ROW, faults), expected)

    def test_a_fault_twice(self):
        faults = [("closed", 0), ("open", 0), ("closed", 0)]
        found = seen_faults(LAMP, faults)
        self.assertEqual(found, [(("closed", 0), []), (("open", 0), ["s"]), (("closed", 0), [])])
        # What was returned for the one of them may change.
        found[0][1].append("s")
        self.assertEqual(found[2], (("closed", 0), []))
        self.assertEqual(faults, [("closed", 0), ("open", 0), ("closed", 0)])

    def test_as_the_verdicts_tell(self):
        for board, hurry in determinate_in(many_boards()):
            expected = []
            for fault in all_faults(board):
                found = fault_verdict(board, fault, hurry=hurry)
                if isinstance(found, Seen):
                    expected.append((fault, found.switching))
            self.assertEqual(seen_faults(board, all_faults(board), hurry=hurry), expected)


class TestSuite(unittest.TestCase):
    def test_ordinary_ones(self):
        self.assertEqual(suite(LAMP, all_faults(LAMP)), [["s"], []])
        self.assertEqual(suite(ROW, all_faults(ROW)), [["s", "t"], ["t"], ["s"]])
        self.assertEqual(suite(QUIET, all_faults(QUIET)), [["s"], []])

    def test_no_seen_faults(self):
        self.assertEqual(suite(LAMP, []), [])
        self.assertEqual(suite(IDLE, [("open", 1), ("closed", 1)]), [])
        self.assertEqual(suite(QUIET, [("open", 2), ("closed", 2)]), [])
        self.assertEqual(suite(small_board(), []), [])

    def test_a_switching_that_shows_several_faults(self):
        # The empty switching shows a contact of y open, and the contact of x closed; s the other two.
        self.assertEqual(suite(SWAP, all_faults(SWAP)), [["s"], []])
        self.assertEqual(suite(SWAP, [("open", 0), ("closed", 1)]), [["s"]])
        self.assertEqual(suite(SWAP, [("open", 1), ("closed", 0)]), [[]])

    def test_a_switching_shows_a_fault_whose_verdict_has_another_one(self):
        # Behind s and t the closed contact of y is not seen, but behind s it is, and behind nothing.
        self.assertEqual(seen_faults(TWO, [("closed", 1)]), [(("closed", 1), [])])
        self.assertTrue(shown_by(TWO, ("closed", 1), ["s"]))
        self.assertEqual(suite(TWO, [("open", 0), ("closed", 1)]), [["s"]])
        self.assertEqual(suite(TWO, [("closed", 1), ("open", 0)]), [["s"]])

    def test_a_switching_of_the_first_step_is_left_out(self):
        # The first step takes the empty switching, s and t; s and t show what the empty one shows.
        faults = [("closed", 1), ("open", 0), ("open", 1), ("closed", 0)]
        self.assertEqual(suite(TWO, faults), [["s"], ["t"]])
        # In this order it is not taken.
        self.assertEqual(suite(TWO, [("open", 0), ("open", 1), ("closed", 0), ("closed", 1)]), [["s"], ["t"]])
        # One of the lamps alone.
        self.assertEqual(suite(TWO, [("closed", 0), ("open", 0)]), [[], ["s"]])

    def test_the_order_of_the_faults(self):
        self.assertEqual(suite(LAMP, [("closed", 0), ("open", 0)]), [[], ["s"]])
        self.assertEqual(suite(ROW, all_faults(ROW)[::-1]), [["s"], ["t"], ["s", "t"]])

    def test_a_fault_twice(self):
        self.assertEqual(suite(LAMP, [("open", 0), ("open", 0)]), [["s"]])

    def test_in_several_hurries(self):
        self.assertEqual(suite(HASTY, all_faults(HASTY)), [["s", "s"], []])
        with self.assertRaises(NotDeterminate):
            suite(HASTY, all_faults(HASTY), hurry=1)
        self.assertEqual(suite(LAMP, all_faults(LAMP), hurry=8), [["s"], []])

    def test_on_many_boards(self):
        sizes, shorter = {}, 0
        for board, hurry in determinate_in(many_boards()):
            bench = slow_faults.Bench(board, hurry)
            for faults in (all_faults(board), all_faults(board)[::-1], all_faults(board)[1::3]):
                found = suite(board, faults, hurry=hurry)
                self.assertEqual(found, bench.suite(faults))
                self.assertIs(check_suite(board, faults, found, hurry=hurry), True)
                seen = bench.seen(faults)
                self.assertEqual(seen_faults(board, faults, hurry=hurry), seen)
                sizes[len(found)] = True
                shorter += self.first_step(bench, seen) != found
        self.assertGreater(len(sizes), 3)
        self.assertGreater(shorter, 5)

    def first_step(self, bench, seen):
        rows = []
        for fault, switching in seen:
            if not any(bench.shown_by(fault, row) for row in rows):
                rows.append(switching)
        return rows

    def test_the_result_is_new(self):
        faults = all_faults(LAMP)
        found = suite(LAMP, faults)
        found[0].append("s")
        found.clear()
        self.assertEqual((suite(LAMP, faults), faults), ([["s"], []], all_faults(LAMP)))


class TestCheckSuite(unittest.TestCase):
    def check(self, board, faults, switchings, expected, **given):
        before = [list(switching) for switching in switchings]
        self.assertIs(check_suite(board, faults, switchings, **given), expected)
        self.assertEqual(switchings, before)

    def test_the_suite(self):
        for board in (LAMP, ROW, TWO, SWAP, QUIET, HASTY, IDLE):
            self.check(board, all_faults(board), suite(board, all_faults(board)), True)

    def test_one_less(self):
        for board in (LAMP, ROW, TWO, SWAP, QUIET, HASTY, IDLE):
            found = suite(board, all_faults(board))
            for at in range(len(found)):
                self.check(board, all_faults(board), found[:at] + found[at + 1:], False)

    def test_one_more(self):
        for board in (LAMP, ROW, TWO, SWAP, QUIET, HASTY, IDLE):
            found = suite(board, all_faults(board))
            for more in ([], ["s"], ["s", "s", "s", "s"]):
                self.check(board, all_faults(board), [*found, more], False)
                self.check(board, all_faults(board), [more, *found], False)

    def test_one_twice(self):
        self.check(LAMP, all_faults(LAMP), [["s"], [], ["s"]], False)
        self.check(LAMP, [("open", 0)], [["s"], ["s"]], False)
        self.check(LAMP, [], [[], []], False)

    def test_in_another_order(self):
        self.check(LAMP, all_faults(LAMP), [[], ["s"]], True)
        self.check(ROW, all_faults(ROW), [["t"], ["s"], ["s", "t"]], True)

    def test_other_switchings(self):
        self.check(LAMP, all_faults(LAMP), [["s"] * 3, ["s"] * 2], True)
        self.check(ROW, all_faults(ROW), [["t", "s"], ["t"], ["s"]], True)
        self.check(ROW, all_faults(ROW), [["s", "t"], ["t", "t"], ["s"]], False)
        # A third one shows what the first two show together.
        self.check(TWO, [("closed", 0), ("closed", 1)], [["s"], ["t"]], True)
        self.check(TWO, [("closed", 0), ("closed", 1)], [["s"], ["t"], []], False)
        self.check(TWO, [("closed", 0), ("closed", 1)], [[]], True)

    def test_the_empty_list(self):
        self.check(LAMP, [], [], True)
        self.check(LAMP, [("open", 0)], [], False)
        self.check(IDLE, [("open", 1)], [], True)
        self.check(QUIET, [("open", 2)], [], True)
        self.check(QUIET, [("open", 2)], [[]], False)
        self.check(LAMP, [], [["s"]], False)

    def test_a_fault_twice(self):
        self.check(LAMP, [("open", 0), ("open", 0)], [["s"]], True)

    def test_on_many_boards(self):
        counts = {True: 0, False: 0}
        for board, hurry in list(determinate_in(many_boards()))[::2]:
            bench = slow_faults.Bench(board, hurry)
            faults = all_faults(board)
            found = suite(board, faults, hurry=hurry)
            first = board.switches[:1]
            lists = [found[::-1], found + [list(first)], found[1:] + [list(first) * 2], found[:1]]
            lists.append([[], list(board.switches)])
            for switchings in lists:
                expected = bench.is_right(faults, switchings)
                self.check(board, faults, switchings, expected, hurry=hurry)
                counts[expected] += 1
        self.assertGreater(min(counts.values()), 20)

    def test_unknown_names(self):
        for switchings, name in (
            ([["r"]], "r"),
            ([["s"], ["s", "x", "r"], ["q"]], "x"),
            ([[], ["s"], ["s", ""]], ""),
            ([["s"], ["s"], ["a"]], "a"),
        ):
            for board in (HASTY, QUIET, BUZZER):
                with self.assertRaises(UnknownName) as caught:
                    check_suite(board, [("open", 0)], switchings, limit=1)
                self.assertEqual(caught.exception.name, name)
                with self.assertRaises(UnknownName) as caught:
                    check_suite(board, [], switchings)
                self.assertEqual(caught.exception.name, name)


class TestErrors(unittest.TestCase):
    def questions(self):
        yield lambda board, faults, **given: seen_faults(board, faults, **given)
        yield lambda board, faults, **given: suite(board, faults, **given)
        yield lambda board, faults, **given: check_suite(board, faults, [], **given)

    def test_the_first_fault_that_is_none(self):
        questions = [*self.questions(), lambda *row, **given: check_suite(*row, [["x"]], **given)]
        for question in questions:
            for board in (HASTY, BUZZER):
                with self.assertRaises(UnknownNumber) as caught:
                    question(board, [("open", 0), ("closed", 2), ("coil", "s"), ("open", 7)], limit=1)
                self.assertEqual(caught.exception.number, 2)
                with self.assertRaises(UnknownName) as caught:
                    question(board, [("open", 0), ("coil", "s"), ("closed", -1)], limit=1)
                self.assertEqual(caught.exception.name, "s")

    def test_boards_that_are_not_determinate(self):
        for question in self.questions():
            for faults in ([], all_faults(BUZZER), [("open", 0)]):
                with self.assertRaises(NotDeterminate):
                    question(BUZZER, faults)
            with self.assertRaises(NotDeterminate):
                question(HASTY, all_faults(HASTY), hurry=1)
            with self.assertRaises(TooMany) as caught:
                question(BUZZER, all_faults(BUZZER), limit=1)
            self.assertEqual(caught.exception.limit, 1)

    def test_limits(self):
        check_defaults(self, seen_faults, suite, check_suite)
        for board, hurry in list(determinate_in(many_boards()))[::4]:
            bench = slow_faults.Bench(board, hurry)
            faults = all_faults(board)
            counts = [slow_faults.verdict_count(bench, fault) for fault in faults]
            count = max([slow_faults.slow.agree_count(bench.board, bench.board, hurry), *counts])
            for question in self.questions():
                check_limits(self, count, lambda limit: question(board, faults, hurry=hurry, limit=limit))

    def test_limits_without_faults(self):
        for question in self.questions():
            check_limits(self, 2, lambda limit: question(LAMP, [], limit=limit))

    def test_arguments_stay_as_they_are(self):
        faults, before = all_faults(HASTY), parts_of(HASTY)
        for question in self.questions():
            question(HASTY, faults)
        self.assertEqual((faults, parts_of(HASTY)), (all_faults(HASTY), before))


if __name__ == "__main__":
    unittest.main()
