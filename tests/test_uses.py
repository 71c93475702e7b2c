import unittest

from leverhouse.agree import agree
from leverhouse.boards import Board
from leverhouse.errors import NotDeterminate, TooMany, UnknownNumber
from leverhouse.races import is_determinate, race
from leverhouse.uses import one_way, use_of, uses
from tests import slow
from tests.checks import check_defaults, check_limits
from tests.samples import bridge_board, busy_board, deep_board, odd_board, parts_of, small_board

# Two switches with a lamp each, and a wire between the lamps.
BRIDGE = small_board("ab", "st", [], ["xa", "yb"], ["pas", "pbt", "ab-"])
# The relay holds itself, if it is given the time to come up.
HASTY = small_board("a", "s", ["ra"], ["xa"], ["pas", "par"])
BUZZER = small_board("a", "", ["ra"], ["xa"], ["pa!r"])
# One contact of each kind and way, on a board on which they do nothing together.
KINDS = Board(
    nodes=["p", "m", "a", "b"],
    switches=["s"],
    relays=[("r", "a", "m")],
    lamps=[("x", "b", "m")],
    contacts=[
        ("p", "a", "s", "make", "both"),
        ("b", "a", "s", "break", "forward"),
        ("a", "b", "r", "break", "both"),
        ("b", "p", "r", "make", "forward"),
        ("a", "b", None, "make", "both"),
        ("b", "a", None, "make", "forward"),
    ],
)

# The wire between a and b feeds b with s on alone, and a with both switches on. Both of it is kept in
# mind by relays, and with both switches on it is the same to the lamp which of them have come up.
EITHER = small_board(
    "uabwgfnocdez",
    "st",
    ["ha", "in", "qbg", "jo", "kaf", "lc"],
    ["xz"],
    [
        "pus", "ua!t", "uwt", "wbi", "ab-", "gm!t", "fmt", "pnh", "pni", "poq", "poj", "pck", "pcl",
        "pds", "det", "ezj", "ezl",
    ],
)


def determinate_boards():
    """Boards with a hurry in which they are determinate."""
    for seed in range(40):
        for board in (odd_board(seed, 2, 2, 8), busy_board(seed, 2, 2), deep_board(seed, 1, 1), bridge_board(seed)):
            for hurry in (0, 1):
                if is_determinate(board, hurry=hurry):
                    yield board, hurry


class TestOneWay(unittest.TestCase):
    def check(self, number, back, contact):
        found = one_way(KINDS, number, back=back)
        self.assertIsInstance(found, Board)
        contacts = list(KINDS.contacts)
        contacts[number] = contact
        self.assertEqual(parts_of(found), (*parts_of(KINDS)[:4], tuple(contacts)))

    def test_as_it_is(self):
        for number, (one, other, mover, when, _) in enumerate(KINDS.contacts):
            self.check(number, False, (one, other, mover, when, "forward"))
            contact = one_way(KINDS, number).contacts[number]
            self.assertEqual(contact, (one, other, mover, when, "forward"))

    def test_turned_round(self):
        self.check(0, True, ("a", "p", "s", "make", "forward"))
        self.check(1, True, ("a", "b", "s", "break", "forward"))
        self.check(2, True, ("b", "a", "r", "break", "forward"))
        self.check(3, True, ("p", "b", "r", "make", "forward"))
        self.check(4, True, ("b", "a", None, "make", "forward"))
        self.check(5, True, ("a", "b", None, "make", "forward"))

    def test_unknown_numbers(self):
        for number in (-7, -6, -1, 6, 7, 40):
            for back in (False, True):
                with self.assertRaises(UnknownNumber) as caught:
                    one_way(KINDS, number, back=back)
                self.assertEqual(caught.exception.number, number)
        for number in (-1, 0):
            with self.assertRaises(UnknownNumber) as caught:
                one_way(small_board(), number)
            self.assertEqual(caught.exception.number, number)

    def test_the_board_stays_as_it_was(self):
        before = parts_of(KINDS)
        for number in range(6):
            one_way(KINDS, number)
            one_way(KINDS, number, back=True)
        self.assertEqual(parts_of(KINDS), before)


class TestWords(unittest.TestCase):
    def check(self, board, words, **given):
        self.assertEqual(uses(board, **given), words)
        for number, word in enumerate(words):
            self.assertEqual(use_of(board, number, **given), word)

    def test_no_contacts(self):
        self.check(small_board(), [])
        self.check(small_board("a", "s", ["ra"]), [])

    def test_idle(self):
        # A contact that leads nowhere, and two of which each alone is enough.
        self.check(small_board("ab", "s", [], ["xa"], ["pas", "pbs", "pas>"]), ["idle"] * 3)
        # Nothing of a board whose fuse is blown from the first state on can be seen, but the short itself.
        self.check(small_board("a", "s", [], ["xa"], ["pm-", "pas"]), ["forward", "idle"])

    def test_forward(self):
        self.check(small_board("a", "s", [], ["xa"], ["pas"]), ["forward"])
        self.check(small_board("a", "s", [], ["xa"], ["pas>"]), ["forward"])
        self.check(small_board("ab", "s", [], ["xb"], ["pas", "abs"]), ["forward", "forward"])

    def test_back(self):
        self.check(small_board("a", "s", [], ["xa"], ["aps"]), ["back"])
        self.check(small_board("ab", "s", [], ["xb"], ["aps", "ba-"]), ["back", "back"])

    def test_a_contact_that_leads_forward_and_does_nothing(self):
        # Its first node is the lamp's, so that no current goes through it.
        self.check(small_board("a", "s", [], ["xa"], ["aps>"]), ["idle"])

    def test_needed(self):
        self.check(BRIDGE, ["forward", "forward", "needed"])
        # The same between two lamps that a relay and a switch feed.
        board = small_board("abc", "st", ["rc"], ["xa", "yb"], ["pcs", "par", "pbt", "ba-"])
        self.check(board, ["forward", "forward", "forward", "needed"])

    def test_the_first_word_that_holds(self):
        # The wire is idle between nodes that are fed together; one way alone would do, too.
        board = small_board("ab", "s", [], ["xa", "yb"], ["pas", "pbs", "ab-"])
        self.check(board, ["idle", "idle", "idle"])

    def test_either_way_alone_is_enough(self):
        self.assertIsNone(agree(EITHER, one_way(EITHER, 4)))
        self.assertIsNone(agree(EITHER, one_way(EITHER, 4, back=True)))
        self.assertIsNotNone(agree(EITHER, EITHER.without_contact(4)))
        self.assertEqual(use_of(EITHER, 4), "forward")
        self.assertEqual(uses(EITHER)[4], "forward")
        # The same contact with its nodes in the other order.
        turned = EITHER.replace_contact(4, ("b", "a", None, "make", "both"))
        self.assertEqual(use_of(turned, 4), "forward")

    def test_what_does_not_settle_does_not_agree(self):
        # Without the holding contact, the relay of this board buzzes.
        board = small_board("ab", "s", ["ra"], ["xb"], ["pas", "pa!r", "pa-"])
        self.assertTrue(is_determinate(board))
        self.assertFalse(is_determinate(board.without_contact(2)))
        self.check(board, ["idle", "idle", "forward"])

    def test_in_several_hurries(self):
        # The lamp shows that q or r is up. Both hold themselves, and without hurry both are always up then.
        contacts = ["pas", "paq", "pbs", "pbr", "pcq", "pcr"]
        board = small_board("abc", "s", ["qa", "rb"], ["xc"], contacts)
        self.check(board, ["idle"] * 6)
        self.check(board, ["forward"] * 6, hurry=1)
        with self.assertRaises(NotDeterminate):
            uses(board, hurry=2)

    def test_in_several_hurries_by_the_way(self):
        # Without hurry, current goes through the wire only from the lamp that t lights to the other one.
        contacts = ["pas", "paq", "pbs", "pbr", "pcq", "pdr", "pdt"]
        for ends, word in (("cd", "back"), ("dc", "forward")):
            board = small_board("abcd", "st", ["qa", "rb"], ["xc", "yd"], contacts + [f"{ends}-"])
            self.assertEqual(use_of(board, 7), word)
            self.assertEqual(uses(board)[7], word)
            # In the hurry 1, one of the relays alone can be up.
            self.assertEqual(use_of(board, 7, hurry=1), "needed")
            self.assertEqual(uses(board, hurry=1)[7], "needed")

    def test_on_many_boards(self):
        words = {}
        for board, hurry in determinate_boards():
            slow_board = slow.Slow(board)
            found = uses(board, hurry=hurry)
            expected = [slow.use_of(slow_board, number, hurry)[0] for number in range(len(board.contacts))]
            self.assertEqual(found, expected)
            for number, word in enumerate(found):
                self.assertEqual(use_of(board, number, hurry=hurry), word)
                words[word, board.contacts[number][4]] = words.get((word, board.contacts[number][4]), 0) + 1
        for word in ("idle", "forward", "back"):
            self.assertGreater(words[word, "both"], 10)
        self.assertGreater(words["needed", "both"], 2)
        self.assertEqual({word for word, way in words if way == "forward"}, {"idle", "forward"})

    def test_the_hurry_matters(self):
        changed = 0
        for seed in range(60):
            for board in (busy_board(seed, 2, 2), deep_board(seed, 1, 2)):
                if is_determinate(board, hurry=1):
                    slow_board = slow.Slow(board)
                    words = {}
                    for hurry in (0, 1):
                        found = uses(board, hurry=hurry)
                        numbers = range(len(board.contacts))
                        expected = [slow.use_of(slow_board, number, hurry)[0] for number in numbers]
                        self.assertEqual(found, expected)
                        words[hurry] = found
                    changed += words[0] != words[1]
        self.assertGreater(changed, 0)

    def test_the_example(self):
        contacts = [
            ("plus", "x", "s", "make", "both"),
            ("plus", "y", "t", "make", "both"),
            ("x", "y", None, "make", "both"),
        ]
        bridge = Board(
            nodes=["plus", "minus", "x", "y"],
            switches=["s", "t"],
            relays=[],
            lamps=[("left", "x", "minus"), ("right", "y", "minus")],
            contacts=contacts,
        )
        self.assertEqual(uses(bridge), ["forward", "forward", "needed"])

    def test_the_list_is_a_new_one_and_the_board_stays(self):
        before = parts_of(BRIDGE)
        uses(BRIDGE).clear()
        self.assertEqual(uses(BRIDGE), ["forward", "forward", "needed"])
        self.assertEqual(parts_of(BRIDGE), before)


class TestErrors(unittest.TestCase):
    def test_not_determinate(self):
        for hurry in (0, 1, 8):
            with self.assertRaises(NotDeterminate):
                uses(BUZZER, hurry=hurry)
        self.assertEqual(uses(HASTY), ["forward", "forward"])
        for hurry in (1, 2, 8):
            with self.assertRaises(NotDeterminate):
                uses(HASTY, hurry=hurry)

    def test_not_determinate_without_contacts(self):
        # Nothing can race on a board without contacts, but the question is asked all the same.
        with self.assertRaises(TooMany):
            uses(small_board("a", "s"), limit=1)
        self.assertEqual(uses(small_board("a", "s"), limit=2), [])

    def test_the_race_is_asked_first(self):
        # Enough for the race, but for no question with one contact less.
        for board in (HASTY, busy_board(4)):
            slow_board = slow.Slow(board)
            self.assertIsNotNone(race(board, hurry=1))
            count = slow.agree_count(slow_board, slow_board, 1)
            with self.assertRaises(NotDeterminate):
                uses(board, hurry=1, limit=count)
            for limit in (1, count - 1):
                with self.assertRaises(TooMany) as caught:
                    uses(board, hurry=1, limit=limit)
                self.assertEqual(caught.exception.limit, limit)

    def test_too_many_of_a_later_question_does_not_hide_a_race(self):
        seen = 0
        for seed in range(100):
            board = busy_board(seed, 2, 2)
            slow_board = slow.Slow(board)
            count = slow.agree_count(slow_board, slow_board, 1)
            if is_determinate(board, hurry=1):
                continue
            later = [slow.use_of(slow_board, number, 1)[1] for number in range(len(board.contacts))]
            seen += max(later) > count
            with self.assertRaises(NotDeterminate):
                uses(board, hurry=1, limit=count)
        self.assertGreater(seen, 3)

    def test_the_limit(self):
        later = 0
        for board, hurry in determinate_boards():
            slow_board = slow.Slow(board)
            counts = [slow.agree_count(slow_board, slow_board, hurry)]
            counts += [slow.use_of(slow_board, number, hurry)[1] for number in range(len(board.contacts))]
            check_limits(self, max(counts), lambda limit: uses(board, hurry=hurry, limit=limit))
            later += max(counts) > counts[0]
        self.assertGreater(later, 20)

    def test_the_limit_of_one_contact(self):
        for board, hurry in determinate_boards():
            slow_board = slow.Slow(board)
            race_count = slow.agree_count(slow_board, slow_board, hurry)
            for number in range(len(board.contacts)):
                count = slow.use_of(slow_board, number, hurry)[1]
                use_of(board, number, hurry=hurry, limit=max(count, race_count))
                if count > 1:
                    with self.assertRaises(TooMany) as caught:
                        use_of(board, number, hurry=hurry, limit=count - 1)
                    self.assertEqual(caught.exception.limit, count - 1)

    def test_what_is_not_given(self):
        check_defaults(self, use_of, uses)


if __name__ == "__main__":
    unittest.main()
