import unittest

from leverhouse.agree import Parting, Unsettled, agree
from leverhouse.boards import Board, same_face
from leverhouse.ends import rest_shows
from leverhouse.errors import NotDeterminate, TooMany, UnknownName, UnknownNumber
from leverhouse.faults import (
    Restless,
    Seen,
    all_faults,
    fault_verdict,
    faulty,
    shown_by,
    suspects,
)
from leverhouse.plays import switching_of
from leverhouse.races import is_determinate
from tests import slow_faults
from tests.checks import check_defaults, check_limits, determinate_in
from tests.samples import (
    bridge_board,
    busy_board,
    deep_board,
    odd_board,
    parts_of,
    small_board,
    small_play,
)

LIT, DARK = (("x",), False), ((), False)
BLOWN = ((), True)

LAMP = small_board("a", "s", [], ["xa"], ["pas"])
# The relay follows the switch, and the lamp the relay.
PLAIN = small_board("ab", "s", ["ra"], ["xb"], ["pas", "pbr"])
# The relay holds itself, if it is given the time to come up.
HASTY = small_board("a", "s", ["ra"], ["xa"], ["pas", "par"])
# The contact that breaks would make the relay buzz, if the wire did not hold it.
QUIET = small_board("ab", "s", ["ra"], ["xb"], ["pbs", "pa!r", "pa-"])
# Both relays are due; if q is up before r, there is a short.
FUSE = small_board("ab", "s", ["qa", "ra"], ["xa"], ["pas", "pbq", "bm!r"])
BUZZER = small_board("a", "s", ["ra"], ["xa"], ["pa!r"])
# Contacts of each kind, way and mover, between and around those of the relay r.
KINDS = Board(
    nodes=["p", "m", "a", "b"],
    switches=["s"],
    relays=[("q", "a", "m"), ("r", "b", "a"), ("u", "b", "m")],
    lamps=[("x", "b", "m"), ("r", "a", "m")],
    contacts=[
        ("p", "a", "s", "make", "both"),
        ("b", "a", "r", "break", "forward"),
        ("a", "b", "r", "make", "both"),
        ("b", "p", "q", "break", "forward"),
        ("a", "b", "r", "break", "both"),
        ("b", "a", None, "make", "forward"),
        ("a", "p", "r", "make", "forward"),
        ("p", "b", None, "make", "both"),
        ("a", "m", "u", "make", "both"),
    ],
)


def many_boards():
    for seed in range(25):
        yield odd_board(seed, 2, 2, 8)
        yield busy_board(seed, 2, 2)
        yield deep_board(seed, 1, 2)
        yield bridge_board(seed)


def told(verdict):
    """The verdict as tests.slow_faults gives it."""
    if isinstance(verdict, Seen):
        return (verdict.switching, verdict.shows)
    return [verdict.play, verdict.moves] if isinstance(verdict, Restless) else verdict


class TestClasses(unittest.TestCase):
    def test_seen(self):
        found = Seen(["s", "t"], (LIT, DARK))
        self.assertEqual((found.switching, found.shows), (["s", "t"], (LIT, DARK)))
        found = Seen(shows=(DARK, LIT), switching=[])
        self.assertEqual((found.switching, found.shows), ([], (DARK, LIT)))

    def test_restless(self):
        found = Restless(small_play("S"), small_play("r r"))
        self.assertEqual((found.play, found.moves), (small_play("S"), small_play("r r")))
        found = Restless(moves=small_play("r"), play=[])
        self.assertEqual((found.play, found.moves), ([], small_play("r")))

    def test_lists_are_copies(self):
        switching, play, moves = ["s"], small_play("S"), small_play("r r")
        seen, restless = Seen(switching, (LIT, DARK)), Restless(play, moves)
        for row in (switching, play, moves):
            row.clear()
        self.assertEqual(seen.switching, ["s"])
        self.assertEqual((restless.play, restless.moves), (small_play("S"), small_play("r r")))


class TestAllFaults(unittest.TestCase):
    def test_their_order(self):
        expected = [("open", number) for number in range(9)]
        expected += [("closed", number) for number in (0, 1, 2, 3, 4, 6, 8)]
        expected += [("coil", "q"), ("coil", "r"), ("coil", "u")]
        self.assertEqual(all_faults(KINDS), expected)

    def test_boards_without_some_parts(self):
        self.assertEqual(all_faults(small_board()), [])
        self.assertEqual(all_faults(small_board("a", "s", ["ra", "qa"])), [("coil", "r"), ("coil", "q")])
        self.assertEqual(all_faults(small_board("a", "", [], ["xa"], ["pa-", "pa-"])), [("open", 0), ("open", 1)])
        self.assertEqual(all_faults(LAMP), [("open", 0), ("closed", 0)])

    def test_equal_contacts_have_their_own_faults(self):
        board = small_board("a", "s", [], ["xa"], ["pas", "pas"])
        self.assertEqual(all_faults(board), [("open", 0), ("open", 1), ("closed", 0), ("closed", 1)])

    def test_on_many_boards(self):
        for board in many_boards():
            self.assertEqual(all_faults(board), slow_faults.all_faults(board))
            self.assertIsNot(all_faults(board), all_faults(board))


class TestFaulty(unittest.TestCase):
    def check(self, fault, contacts, relays=KINDS.relays):
        found = faulty(KINDS, fault)
        self.assertIsInstance(found, Board)
        self.assertEqual(parts_of(found), (KINDS.nodes, KINDS.switches, tuple(relays), KINDS.lamps, tuple(contacts)))
        self.assertTrue(same_face(KINDS, found))

    def test_open(self):
        for number in range(9):
            contacts = [contact for at, contact in enumerate(KINDS.contacts) if at != number]
            self.check(("open", number), contacts)

    def test_closed(self):
        wires = {
            0: ("p", "a", None, "make", "both"),
            1: ("b", "a", None, "make", "forward"),
            2: ("a", "b", None, "make", "both"),
            3: ("b", "p", None, "make", "forward"),
            4: ("a", "b", None, "make", "both"),
            6: ("a", "p", None, "make", "forward"),
            8: ("a", "m", None, "make", "both"),
        }
        for number, wire in wires.items():
            contacts = list(KINDS.contacts)
            contacts[number] = wire
            self.check(("closed", number), contacts)

    def test_a_wire_is_closed_as_it_is(self):
        for number in (5, 7):
            self.check(("closed", number), KINDS.contacts)

    def test_coil(self):
        contacts = [
            ("p", "a", "s", "make", "both"),
            ("b", "a", None, "make", "forward"),
            ("b", "p", "q", "break", "forward"),
            ("a", "b", None, "make", "both"),
            ("b", "a", None, "make", "forward"),
            ("p", "b", None, "make", "both"),
            ("a", "m", "u", "make", "both"),
        ]
        self.check(("coil", "r"), contacts, [("q", "a", "m"), ("u", "b", "m")])
        contacts = list(KINDS.contacts)
        contacts[3] = ("b", "p", None, "make", "forward")
        self.check(("coil", "q"), contacts, KINDS.relays[1:])
        self.check(("coil", "u"), KINDS.contacts[:8], KINDS.relays[:2])

    def test_coil_without_contacts(self):
        board = small_board("a", "s", ["ra"], ["xa"], ["pas"])
        self.assertEqual(parts_of(faulty(board, ("coil", "r"))), parts_of(LAMP))

    def test_unknown_numbers(self):
        for kind in ("open", "closed"):
            for number in (-10, -9, -1, 9, 10, 40):
                with self.assertRaises(UnknownNumber) as caught:
                    faulty(KINDS, (kind, number))
                self.assertEqual(caught.exception.number, number)
            for number in (-1, 0):
                with self.assertRaises(UnknownNumber) as caught:
                    faulty(small_board(), (kind, number))
                self.assertEqual(caught.exception.number, number)

    def test_unknown_names(self):
        # The name of a switch, of a lamp alone, of a node, of nothing.
        for name in ("s", "x", "a", "p", "z", "", "rr"):
            with self.assertRaises(UnknownName) as caught:
                faulty(KINDS, ("coil", name))
            self.assertEqual(caught.exception.name, name)

    def test_on_many_boards(self):
        for board in many_boards():
            before = parts_of(board)
            for fault in all_faults(board):
                self.assertEqual(parts_of(faulty(board, fault)), parts_of(slow_faults.faulty(board, fault)))
            self.assertEqual(parts_of(board), before)


class TestVerdict(unittest.TestCase):
    def check_seen(self, board, fault, switching, shows, **given):
        found = fault_verdict(board, fault, **given)
        self.assertIsInstance(found, Seen)
        self.assertEqual((found.switching, found.shows), (switching, shows))

    def test_seen(self):
        self.check_seen(LAMP, ("open", 0), ["s"], (LIT, DARK))
        self.check_seen(LAMP, ("closed", 0), [], (DARK, LIT))
        self.check_seen(PLAIN, ("open", 0), ["s"], (LIT, DARK))
        self.check_seen(PLAIN, ("closed", 0), [], (DARK, LIT))
        self.check_seen(PLAIN, ("open", 1), ["s"], (LIT, DARK))
        self.check_seen(PLAIN, ("closed", 1), [], (DARK, LIT))
        self.check_seen(PLAIN, ("coil", "r"), ["s"], (LIT, DARK))

    def test_a_longer_switching(self):
        # The relay that holds itself is seen when the switch is off again.
        self.check_seen(HASTY, ("open", 1), ["s", "s"], (LIT, DARK))
        self.check_seen(HASTY, ("coil", "r"), ["s", "s"], (LIT, DARK))

    def test_a_fuse(self):
        board = small_board("a", "s", [], ["xa"], ["pa-", "am-"])
        self.check_seen(board, ("open", 0), [], (BLOWN, DARK))
        board = small_board("ab", "st", [], ["xa"], ["pas", "abt", "bm-"])
        self.check_seen(board, ("closed", 1), ["s"], (LIT, BLOWN))

    def test_restless(self):
        found = fault_verdict(QUIET, ("open", 2))
        self.assertIsInstance(found, Restless)
        self.assertEqual((found.play, found.moves), ([], small_play("r r")))
        # The switch cuts the buzzing contact off.
        board = small_board("ab", "s", ["ra"], ["xb"], ["pbs", "ba!r", "pa-"])
        found = fault_verdict(board, ("open", 2))
        self.assertEqual((found.play, found.moves), (small_play("S"), small_play("r r")))

    def test_none(self):
        self.assertIsNone(fault_verdict(QUIET, ("open", 1)))
        self.assertIsNone(fault_verdict(QUIET, ("closed", 1)))
        self.assertIsNone(fault_verdict(QUIET, ("coil", "r")))
        self.assertIsNone(fault_verdict(LAMP.insert_contact(0, ("p", "a", "s", "make", "both")), ("open", 1)))
        # A wire that is closed is as it was.
        self.assertIsNone(fault_verdict(QUIET, ("closed", 2)))

    def test_in_several_hurries(self):
        self.check_seen(PLAIN, ("open", 0), ["s"], (LIT, DARK), hurry=1)
        self.assertIsInstance(fault_verdict(HASTY, ("open", 1)), Seen)
        with self.assertRaises(NotDeterminate):
            fault_verdict(HASTY, ("open", 1), hurry=1)

    def test_as_agree_tells(self):
        for board, hurry in determinate_in(many_boards()):
            for fault in all_faults(board):
                found = fault_verdict(board, fault, hurry=hurry)
                result = agree(board, faulty(board, fault), hurry=hurry)
                if result is None:
                    self.assertIsNone(found)
                elif isinstance(result, Unsettled):
                    self.assertIsInstance(found, Restless)
                    self.assertEqual(result.which, "other")
                    self.assertEqual((found.play, found.moves), (result.play, result.moves))
                else:
                    self.assertIsInstance(result, Parting)
                    self.assertIsInstance(found, Seen)
                    self.assertEqual(found.switching, switching_of(result.first))
                    self.assertEqual(found.shows, result.shows)

    def test_on_many_boards(self):
        kinds = {}
        for board, hurry in determinate_in(many_boards()):
            bench = slow_faults.Bench(board, hurry)
            for fault in all_faults(board):
                found = told(fault_verdict(board, fault, hurry=hurry))
                self.assertEqual(found, bench.verdict(fault))
                kinds[found.__class__] = kinds.get(found.__class__, 0) + 1
        self.assertGreater(min(kinds.values()), 8)
        self.assertEqual(len(kinds), 3)

    def test_boards_that_are_not_determinate(self):
        for board in (BUZZER, small_board("ab", "s", ["qa", "ra"], ["xb"], ["pas", "pbq", "bm!r"])):
            for fault in all_faults(board):
                with self.assertRaises(NotDeterminate):
                    fault_verdict(board, fault)
        # Also where the faulty board is determinate.
        self.assertTrue(is_determinate(faulty(BUZZER, ("open", 0))))

    def test_the_order_of_errors(self):
        numbers = [(("open", 9), UnknownNumber), (("closed", -1), UnknownNumber)]
        for fault, error in [*numbers, (("coil", "s"), UnknownName)]:
            with self.assertRaises(error):
                fault_verdict(BUZZER, fault)
            with self.assertRaises(error):
                fault_verdict(PLAIN, fault, limit=1)
        # What the board and itself count comes before the race, and before the faulty board.
        with self.assertRaises(TooMany) as caught:
            fault_verdict(BUZZER, ("open", 0), limit=1)
        self.assertEqual(caught.exception.limit, 1)
        with self.assertRaises(NotDeterminate):
            fault_verdict(BUZZER, ("open", 0), limit=4)

    def test_limits(self):
        check_defaults(self, fault_verdict, shown_by, suspects)
        for board, hurry in list(determinate_in(many_boards()))[::3]:
            bench = slow_faults.Bench(board, hurry)
            for fault in all_faults(board):
                count = slow_faults.verdict_count(bench, fault)
                check_limits(self, count, lambda limit: fault_verdict(board, fault, hurry=hurry, limit=limit))


class TestShownBy(unittest.TestCase):
    def test_ordinary_ones(self):
        for switching, shown in ([], False), (["s"], True), (["s", "s"], False), (["s"] * 3, True):
            self.assertIs(shown_by(LAMP, ("open", 0), switching), shown)
            self.assertIs(shown_by(LAMP, ("closed", 0), switching), not shown)
            self.assertIs(shown_by(PLAIN, ("coil", "r"), switching), shown)
            self.assertIs(shown_by(QUIET, ("open", 1), switching), False)

    def test_boards_that_are_not_determinate(self):
        # With hurry, the board shows both behind two hands; without the relay it is dark.
        self.assertEqual(len(rest_shows(HASTY, ["s", "s"], hurry=1)), 2)
        self.assertIs(shown_by(HASTY, ("coil", "r"), ["s", "s"], hurry=1), False)
        self.assertIs(shown_by(HASTY, ("coil", "r"), ["s", "s"]), True)
        # The other way round, it is the faulty board that can show both.
        board = small_board("ab", "st", ["ra"], ["xa"], ["pas", "abt", "pbr"])
        self.assertIs(shown_by(board, ("closed", 1), ["s", "s"], hurry=1), True)
        # A board that never rests shows nothing.
        self.assertIs(shown_by(BUZZER, ("open", 0), []), True)
        self.assertIs(shown_by(LAMP, ("open", 0), ["s"], hurry=8), True)
        # Nor does a faulty board that never rests show the fault.
        self.assertIs(shown_by(QUIET, ("open", 2), ["s"]), False)

    def test_on_many_boards(self):
        counts = {True: 0, False: 0}
        for board in many_boards():
            for hurry in (0, 1):
                bench = slow_faults.Bench(board, hurry)
                for fault in all_faults(board):
                    for switching in ([], ["s0"], ["s1", "s0"], ["s"], ["s", "t", "s"]):
                        if set(switching) <= set(board.switches):
                            found = shown_by(board, fault, switching, hurry=hurry)
                            self.assertIs(found, bench.shown_by(fault, switching))
                            counts[found] += 1
        self.assertGreater(min(counts.values()), 500)

    def test_what_the_verdict_tells(self):
        for board, hurry in determinate_in(many_boards()):
            for fault in all_faults(board):
                found = fault_verdict(board, fault, hurry=hurry)
                if isinstance(found, Seen):
                    self.assertIs(shown_by(board, fault, found.switching, hurry=hurry), True)
                elif found is None:
                    for switching in ([], *[[name] for name in board.switches], list(board.switches) * 2):
                        self.assertIs(shown_by(board, fault, switching, hurry=hurry), False)

    def test_the_order_of_errors(self):
        numbers = [(("open", 2), UnknownNumber), (("closed", -1), UnknownNumber)]
        for fault, error in [*numbers, (("coil", "s"), UnknownName)]:
            with self.assertRaises(error):
                shown_by(PLAIN, fault, ["r"], limit=1)
        with self.assertRaises(UnknownName) as caught:
            shown_by(PLAIN, ("coil", "x"), ["r"], limit=1)
        self.assertEqual(caught.exception.name, "x")
        for switching, name in ((["r"], "r"), (["s", "x", "r"], "x"), (["s", ""], ""), (["p"], "p")):
            with self.assertRaises(UnknownName) as caught:
                shown_by(PLAIN, ("open", 0), switching, limit=1)
            self.assertEqual(caught.exception.name, name)

    def test_limits(self):
        for board in list(many_boards())[::4]:
            bench = slow_faults.Bench(board, 1)
            for fault in all_faults(board):
                for switching in ([], list(board.switches), list(board.switches) * 2):
                    counts = []
                    for changed in (bench.board, bench.changed(fault)):
                        counts.append(slow_faults.possible_count(changed, switching, 1))
                    check_limits(
                        self, max(counts), lambda limit: shown_by(board, fault, switching, hurry=1, limit=limit)
                    )

    def test_arguments_stay_as_they_are(self):
        switching, before = ["s", "s"], parts_of(PLAIN)
        shown_by(PLAIN, ("open", 0), switching)
        self.assertEqual((switching, parts_of(PLAIN)), (["s", "s"], before))


class TestSuspects(unittest.TestCase):
    def test_ordinary_ones(self):
        faults = all_faults(PLAIN)
        self.assertEqual(suspects(PLAIN, faults, ["s"], DARK), [("open", 0), ("open", 1), ("coil", "r")])
        self.assertEqual(suspects(PLAIN, faults, ["s"], LIT), [("closed", 0), ("closed", 1)])
        self.assertEqual(suspects(PLAIN, faults, [], LIT), [("closed", 0), ("closed", 1)])
        self.assertEqual(suspects(PLAIN, faults, [], BLOWN), [])
        self.assertEqual(suspects(PLAIN, faults, [], (("y",), False)), [])
        self.assertEqual(suspects(PLAIN, [], ["s"], DARK), [])

    def test_the_order_of_the_list(self):
        faults = all_faults(PLAIN)[::-1]
        self.assertEqual(suspects(PLAIN, faults, ["s"], DARK), [("coil", "r"), ("open", 1), ("open", 0)])

    def test_a_fault_twice(self):
        faults = [("open", 1), ("coil", "r"), ("closed", 0), ("open", 1), ("closed", 0)]
        found = suspects(PLAIN, faults, ["s"], DARK)
        self.assertEqual(found, [("open", 1), ("coil", "r"), ("open", 1)])
        self.assertEqual(suspects(PLAIN, faults, ["s"], LIT), [("closed", 0)] * 2)

    def test_several_shows_of_one_switching(self):
        faults = all_faults(HASTY)
        self.assertEqual(suspects(HASTY, faults, ["s", "s"], LIT), [("closed", 0), ("closed", 1)])
        found = suspects(HASTY, [("open", 0), ("closed", 1)], ["s", "s"], DARK, hurry=1)
        self.assertEqual(found, [("open", 0)])
        board = HASTY.insert_contact(2, ("p", "a", "s", "make", "both"))
        for shown in (LIT, DARK):
            self.assertEqual(suspects(board, [("open", 2)], ["s", "s"], shown, hurry=1), [("open", 2)])

    def test_on_many_boards(self):
        total = 0
        for board in many_boards():
            faults = all_faults(board)
            for hurry in (0, 1):
                bench = slow_faults.Bench(board, hurry)
                for switching in ([], list(board.switches[:1]) * 2, list(board.switches)):
                    shows = {}
                    for fault in faults:
                        shows[fault] = slow_faults.slow.rest_shows(bench.changed(fault), switching, hurry)
                    for shown in sorted(set().union(*shows.values())):
                        expected = [fault for fault in faults if shown in shows[fault]]
                        found = suspects(board, faults, switching, shown, hurry=hurry)
                        self.assertEqual(found, expected)
                        total += len(found) < len(faults)
        self.assertGreater(total, 200)

    def test_the_first_fault_that_is_none(self):
        with self.assertRaises(UnknownNumber) as caught:
            suspects(PLAIN, [("open", 0), ("closed", 2), ("coil", "s"), ("open", 7)], ["r"], DARK, limit=1)
        self.assertEqual(caught.exception.number, 2)
        with self.assertRaises(UnknownName) as caught:
            suspects(PLAIN, [("open", 0), ("coil", "s"), ("closed", 2)], ["r"], DARK, limit=1)
        self.assertEqual(caught.exception.name, "s")

    def test_unknown_names(self):
        for switching, name in ((["r"], "r"), (["s", "x", "r"], "x")):
            with self.assertRaises(UnknownName) as caught:
                suspects(FUSE, all_faults(FUSE), switching, DARK, limit=1)
            self.assertEqual(caught.exception.name, name)

    def test_limits(self):
        for board in list(many_boards())[::4]:
            faults = all_faults(board)
            if not faults:
                continue
            bench = slow_faults.Bench(board, 1)
            for switching in ([], list(board.switches), list(board.switches) * 2):
                count = max(slow_faults.possible_count(bench.changed(fault), switching, 1) for fault in faults)
                check_limits(
                    self, count, lambda limit: suspects(board, faults, switching, DARK, hurry=1, limit=limit)
                )

    def test_arguments_stay_as_they_are(self):
        faults, switching = all_faults(PLAIN), ["s", "s"]
        found = suspects(PLAIN, faults, switching, DARK)
        found.clear()
        self.assertEqual((faults, switching), (all_faults(PLAIN), ["s", "s"]))


if __name__ == "__main__":
    unittest.main()
