import inspect
import unittest

from leverhouse.boards import Board, check_faces, same_face
from leverhouse.errors import DifferentFaces, InvalidBoard, UnknownName, UnknownNumber
from tests.samples import (
    busy_board,
    contact_parts,
    lamp_parts,
    odd_board,
    parts_of,
    relay_parts,
    sized_board,
)

GOOD_NAMES = ["a", "z", "0", "9", "abcdefghijkl", "mnopqrstuvwx", "yz0123456789", "7up", "a" * 12]
ODD_CHARACTERS = "\u00e9\u00df\u00aa\u00b2\u0131\u0660\u0967\u0430\uff41\uff11\U0001d41a\u2028"
BAD_NAMES = ["", "a" * 13, "A", "Z", "aB", "a b", " a", "a ", "a\n", "\na", "a_b", "a-b", "-", "a.b"]

NODES = ("p", "m", "x", "y")
SWITCHES = ("s", "t")
RELAYS = (("r", "x", "m"), ("q", "y", "m"))
LAMPS = (("l", "x", "m"), ("k", "m", "y"))
CONTACTS = (
    ("p", "x", "s", "make", "both"),
    ("p", "y", "r", "break", "forward"),
    ("x", "y", None, "make", "both"),
    ("y", "x", "s", "break", "forward"),
    ("p", "x", None, "make", "forward"),
    ("x", "m", "q", "make", "both"),
)


def board_with(**changes):
    parts = {
        "nodes": NODES,
        "switches": SWITCHES,
        "relays": RELAYS,
        "lamps": LAMPS,
        "contacts": CONTACTS,
    }
    return Board(**{**parts, **changes})


def bad_characters():
    allowed = "abcdefghijklmnopqrstuvwxyz0123456789"
    return [chr(k) for k in range(0x300) if chr(k) not in allowed] + list(ODD_CHARACTERS)


class TestNames(unittest.TestCase):
    def test_good_names(self):
        for name in GOOD_NAMES + list("abcdefghijklmnopqrstuvwxyz0123456789"):
            with self.subTest(name=name):
                self.assertIs(Board.is_name(name), True)

    def test_bad_names(self):
        for name in BAD_NAMES + ["a" * 14, "a" * 100]:
            with self.subTest(name=name):
                self.assertIs(Board.is_name(name), False)

    def test_each_other_character(self):
        for character in bad_characters():
            for name in (character, "a" + character, character + "a", "a" + character + "b"):
                with self.subTest(name=name):
                    self.assertIs(Board.is_name(name), False)

    def test_it_is_asked_of_a_board_as_well(self):
        self.assertIs(board_with().is_name("abc"), True)


class TestNodes(unittest.TestCase):
    def test_counts(self):
        for count in (2, 3, 15, 16):
            board = sized_board(nodes=count)
            self.assertEqual(len(board.nodes), count)
        lamp = [("l", "n0", "n1")]
        for count in (17, 18, 30):
            with self.assertRaises(InvalidBoard):
                Board(nodes=[f"n{k}" for k in range(count)], lamps=lamp)
        for nodes in ([], ["p"], ()):
            with self.assertRaises(InvalidBoard):
                Board(nodes=nodes, lamps=[("l", "p", "m")])
        with self.assertRaises(InvalidBoard):
            Board(nodes=["p"], lamps=[("l", "p", "p")])

    def test_names(self):
        for name in GOOD_NAMES:
            self.assertEqual(Board(nodes=["p1", "m1", name], lamps=[("l", "p1", "m1")]).nodes[2], name)
        for name in BAD_NAMES:
            for nodes in (["p", "m", name], ["p", name, "m"], [name, "p", "m"]):
                with self.subTest(nodes=nodes), self.assertRaises(InvalidBoard):
                    Board(nodes=nodes, lamps=[("l", "p", "m")])

    def test_a_name_twice(self):
        for nodes in (["p", "p"], ["p", "m", "m"], ["p", "m", "p"], ["p", "m", "x", "y", "x"]):
            with self.subTest(nodes=nodes), self.assertRaises(InvalidBoard):
                Board(nodes=nodes, lamps=[("l", "p", "m")])
            with self.subTest(nodes=nodes), self.assertRaises(InvalidBoard):
                Board(nodes=nodes, lamps=[("l", "p", nodes[1])])

    def test_plus_and_minus(self):
        board = Board(nodes=["minus", "plus", "x"], lamps=[("l", "x", "plus")])
        self.assertEqual((board.plus, board.minus), ("minus", "plus"))
        board = Board(nodes=["a", "b"], lamps=[("l", "b", "a")])
        self.assertEqual((board.plus, board.minus), ("a", "b"))


class TestMovers(unittest.TestCase):
    def test_counts_of_switches(self):
        for count in (0, 1, 5, 6):
            self.assertEqual(len(sized_board(switches=count).switches), count)
        for count in (7, 8, 20):
            with self.assertRaises(InvalidBoard):
                board_with(switches=[f"s{k}" for k in range(count)], contacts=[])

    def test_counts_of_relays(self):
        for count in (0, 1, 7, 8):
            self.assertEqual(len(sized_board(relays=count).relays), count)
        for count in (9, 10, 20):
            with self.assertRaises(InvalidBoard):
                board_with(relays=relay_parts(count, NODES), contacts=[])

    def test_most_of_both(self):
        board = sized_board(switches=6, relays=8)
        self.assertEqual(len(board.movers), 14)

    def test_names(self):
        for name in GOOD_NAMES:
            self.assertEqual(board_with(switches=["s", name]).switches, ("s", name))
            self.assertEqual(
                board_with(relays=[("r", "x", "m"), ("q", "y", "m"), (name, "x", "y")]).relays[2],
                (name, "x", "y"),
            )
        for name in BAD_NAMES:
            with self.subTest(name=name), self.assertRaises(InvalidBoard):
                board_with(switches=["s", name])
            with self.subTest(name=name), self.assertRaises(InvalidBoard):
                board_with(switches=[name, "s"], contacts=[])
            with self.subTest(name=name), self.assertRaises(InvalidBoard):
                board_with(relays=[*RELAYS, (name, "x", "y")])

    def test_a_name_twice(self):
        for switches in (["s", "s"], ["s", "t", "s"], ["t", "s", "s"]):
            with self.subTest(switches=switches), self.assertRaises(InvalidBoard):
                board_with(switches=switches)
        for name in ("r", "q", "s", "t"):
            with self.subTest(name=name), self.assertRaises(InvalidBoard):
                board_with(relays=[*RELAYS, (name, "x", "y")])
        with self.assertRaises(InvalidBoard):
            board_with(switches=["s", "q"])

    def test_coils(self):
        for one in NODES:
            for other in NODES:
                relays = [("r", "x", "m"), ("q", one, other)]
                with self.subTest(one=one, other=other):
                    if one == other:
                        with self.assertRaises(InvalidBoard):
                            board_with(relays=relays)
                    else:
                        self.assertEqual(board_with(relays=relays).relays, tuple(relays))
        for one, other in (("z", "m"), ("m", "z"), ("z", "w"), ("s", "m"), ("m", "l"), ("", "m")):
            with self.subTest(one=one, other=other), self.assertRaises(InvalidBoard):
                board_with(relays=[("r", "x", "m"), ("q", one, other)])
            with self.subTest(one=one, other=other), self.assertRaises(InvalidBoard):
                board_with(relays=[("r", one, other), ("q", "x", "m")])

    def test_numbers(self):
        board = board_with()
        self.assertEqual(board.movers, ("s", "t", "r", "q"))
        for number, name in enumerate(board.movers):
            self.assertEqual(board.mover_number(name), number)
        self.assertEqual([board.is_switch(name) for name in board.movers], [True, True, False, False])
        self.assertIs(board.is_switch("s"), True)
        self.assertIs(board.is_switch("q"), False)

    def test_the_order_is_that_of_the_board(self):
        board = Board(
            nodes=["p", "m"],
            switches=["z", "a", "k"],
            relays=[("y", "p", "m"), ("b", "m", "p"), ("j", "p", "m")],
            lamps=[("l", "p", "m")],
        )
        self.assertEqual(board.movers, ("z", "a", "k", "y", "b", "j"))
        self.assertEqual([board.mover_number(name) for name in "zakybj"], [0, 1, 2, 3, 4, 5])
        self.assertEqual([board.is_switch(name) for name in "zakybj"], [True] * 3 + [False] * 3)

    def test_no_movers(self):
        board = Board(nodes=["p", "m"], lamps=[("l", "p", "m")])
        self.assertEqual(board.movers, ())
        with self.assertRaises(UnknownName):
            board.mover_number("l")

    def test_unknown_names(self):
        board = board_with()
        for name in ("x", "p", "l", "k", "z", "", "S", "ss"):
            for question in (board.mover_number, board.is_switch, board.contacts_of):
                with self.subTest(name=name), self.assertRaises(UnknownName) as caught:
                    question(name)
                self.assertEqual(caught.exception.name, name)


class TestLamps(unittest.TestCase):
    def test_counts(self):
        for count in (1, 2, 7, 8):
            self.assertEqual(len(sized_board(lamps=count).lamps), count)
        for count in (0, 9, 10):
            with self.assertRaises(InvalidBoard):
                board_with(lamps=lamp_parts(count, NODES))

    def test_names(self):
        for name in GOOD_NAMES:
            self.assertEqual(board_with(lamps=[(name, "x", "m")]).lamps, ((name, "x", "m"),))
        for name in BAD_NAMES:
            with self.subTest(name=name), self.assertRaises(InvalidBoard):
                board_with(lamps=[(name, "x", "m")])
            with self.subTest(name=name), self.assertRaises(InvalidBoard):
                board_with(lamps=[("l", "x", "m"), (name, "x", "m")])

    def test_a_name_twice(self):
        with self.assertRaises(InvalidBoard):
            board_with(lamps=[("l", "x", "m"), ("l", "y", "m")])
        with self.assertRaises(InvalidBoard):
            board_with(lamps=[("l", "x", "m"), ("k", "y", "m"), ("l", "x", "m")])

    def test_names_that_two_sorts_share(self):
        board = Board(
            nodes=["p", "m", "a", "b"],
            switches=["p", "a"],
            relays=[("m", "a", "b"), ("b", "a", "m")],
            lamps=[("p", "a", "m"), ("a", "a", "b"), ("b", "p", "m"), ("m", "b", "m")],
            contacts=[("p", "a", "p", "make", "both"), ("m", "b", "m", "break", "both")],
        )
        self.assertEqual(board.movers, ("p", "a", "m", "b"))
        self.assertEqual([lamp[0] for lamp in board.lamps], ["p", "a", "b", "m"])
        self.assertEqual(board.contacts_of("p"), [0])
        self.assertEqual(board.contacts_at("p"), [0])
        self.assertEqual(board.contacts_of("m"), [1])
        self.assertEqual(board.contacts_at("m"), [1])
        self.assertEqual(board.contacts_of("a"), [])
        self.assertEqual(board.contacts_at("a"), [0])

    def test_names_that_are_words_of_contacts(self):
        words = ["make", "break", "both", "forward"]
        board = Board(
            nodes=["p", "m", *words],
            switches=words,
            relays=[("p", "make", "both"), ("m", "break", "make")],
            lamps=[("make", "forward", "both")],
            contacts=[
                ("p", "m", "break", "make", "both"),
                ("make", "both", "forward", "break", "forward"),
                ("m", "break", None, "make", "forward"),
                ("forward", "break", "p", "make", "both"),
            ],
        )
        at = {name: board.contacts_at(name) for name in board.nodes}
        self.assertEqual(
            at, {"p": [0], "m": [0, 2], "make": [1], "break": [2, 3], "both": [1], "forward": [3]}
        )
        of = {name: board.contacts_of(name) for name in board.movers}
        self.assertEqual(
            of, {"make": [], "break": [0], "both": [], "forward": [1], "p": [3], "m": []}
        )

    def test_ends(self):
        for one in NODES:
            for other in NODES:
                with self.subTest(one=one, other=other):
                    if one == other:
                        with self.assertRaises(InvalidBoard):
                            board_with(lamps=[("l", "x", "m"), ("k", one, other)])
                    else:
                        lamps = (("l", "x", "m"), ("k", one, other))
                        self.assertEqual(board_with(lamps=lamps).lamps, lamps)
        for one, other in (("z", "m"), ("m", "z"), ("z", "w"), ("s", "m"), ("m", "r"), ("m", "l")):
            with self.subTest(one=one, other=other), self.assertRaises(InvalidBoard):
                board_with(lamps=[("l", one, other)])
            with self.subTest(one=one, other=other), self.assertRaises(InvalidBoard):
                board_with(lamps=[("l", "x", "m"), ("k", one, other)])


class TestContacts(unittest.TestCase):
    def test_counts(self):
        for count in (0, 1, 39, 40):
            self.assertEqual(len(sized_board(contacts=count).contacts), count)
        for count in (41, 42, 60):
            with self.assertRaises(InvalidBoard):
                board_with(contacts=contact_parts(count, NODES, SWITCHES))

    def test_all_good_contacts(self):
        for one in NODES:
            for other in NODES:
                for mover in ("s", "t", "r", "q", None):
                    for when in ("make", "break"):
                        for way in ("both", "forward"):
                            self.check((one, other, mover, when, way))

    def check(self, contact):
        one, other, mover, when, _ = contact
        with self.subTest(contact=contact):
            if one == other or mover is None and when == "break":
                with self.assertRaises(InvalidBoard):
                    board_with(contacts=[contact])
            else:
                self.assertEqual(board_with(contacts=[contact]).contacts, (contact,))

    def test_wrong_contacts(self):
        wrong = [
            ("z", "x", "s", "make", "both"),
            ("x", "z", "s", "make", "both"),
            ("s", "x", "s", "make", "both"),
            ("x", "l", "s", "make", "both"),
            ("", "x", "s", "make", "both"),
            ("x", "x", "s", "make", "both"),
            ("p", "x", "z", "make", "both"),
            ("p", "x", "l", "make", "both"),
            ("p", "x", "x", "make", "both"),
            ("p", "x", "", "make", "both"),
            ("p", "x", "-", "make", "both"),
            ("p", "x", "s", "open", "both"),
            ("p", "x", "s", "", "both"),
            ("p", "x", "s", "Make", "both"),
            ("p", "x", "s", "both", "make"),
            ("p", "x", "s", "make", "back"),
            ("p", "x", "s", "make", ""),
            ("p", "x", "s", "make", "Both"),
            ("p", "x", "s", "break", "make"),
            ("p", "x", None, "break", "both"),
            ("p", "x", None, "break", "forward"),
            ("p", "x", None, "", "forward"),
            ("p", "x", None, "make", "back"),
            ("x", "x", None, "make", "both"),
        ]
        for contact in wrong:
            with self.subTest(contact=contact), self.assertRaises(InvalidBoard):
                board_with(contacts=[contact])
            with self.subTest(contact=contact), self.assertRaises(InvalidBoard):
                board_with(contacts=[*CONTACTS, contact])
            with self.subTest(contact=contact), self.assertRaises(InvalidBoard):
                board_with(contacts=[contact, *CONTACTS])

    def test_equal_contacts(self):
        contacts = [CONTACTS[0]] * 40
        self.assertEqual(board_with(contacts=contacts).contacts, tuple(contacts))

    def test_contacts_of(self):
        board = board_with()
        self.assertEqual(board.contacts_of("s"), [0, 3])
        self.assertEqual(board.contacts_of("t"), [])
        self.assertEqual(board.contacts_of("r"), [1])
        self.assertEqual(board.contacts_of("q"), [5])

    def test_contacts_at(self):
        board = board_with()
        self.assertEqual(board.contacts_at("p"), [0, 1, 4])
        self.assertEqual(board.contacts_at("m"), [5])
        self.assertEqual(board.contacts_at("x"), [0, 2, 3, 4, 5])
        self.assertEqual(board.contacts_at("y"), [1, 2, 3])
        self.assertEqual(board_with(nodes=[*NODES, "w"]).contacts_at("w"), [])

    def test_contacts_at_unknown_nodes(self):
        for name in ("s", "r", "l", "z", "", "X"):
            with self.subTest(name=name), self.assertRaises(UnknownName) as caught:
                board_with().contacts_at(name)
            self.assertEqual(caught.exception.name, name)

    def test_wires(self):
        self.assertEqual(board_with().wires(), [2, 4])
        self.assertEqual(board_with(contacts=CONTACTS[:2]).wires(), [])
        self.assertEqual(board_with(contacts=[]).wires(), [])

    def test_all_numbers_on_many_boards(self):
        for seed in range(60):
            board = odd_board(seed)
            numbers = list(range(len(board.contacts)))
            for node in board.nodes:
                at = [k for k in numbers if node in (board.contacts[k][0], board.contacts[k][1])]
                self.assertEqual(board.contacts_at(node), at)
            for name in board.movers:
                self.assertEqual(
                    board.contacts_of(name), [k for k in numbers if board.contacts[k][2] == name]
                )
            self.assertEqual(board.wires(), [k for k in numbers if board.contacts[k][2] is None])


class TestEditing(unittest.TestCase):
    NEW = ("m", "y", "t", "break", "forward")

    def check_rest(self, board, edited):
        self.assertIsNot(board, edited)
        self.assertIsInstance(edited, Board)
        self.assertEqual(parts_of(edited)[:4], parts_of(board)[:4])

    def test_replace(self):
        board = board_with()
        for number in range(6):
            edited = board.replace_contact(number, self.NEW)
            self.check_rest(board, edited)
            expected = list(CONTACTS)
            expected[number] = self.NEW
            self.assertEqual(edited.contacts, tuple(expected))
            self.assertEqual(board.contacts, CONTACTS)

    def test_replace_by_the_same(self):
        board = board_with()
        edited = board.replace_contact(0, CONTACTS[0])
        self.check_rest(board, edited)
        self.assertEqual(edited.contacts, CONTACTS)

    def test_insert(self):
        board = board_with()
        for number in range(7):
            edited = board.insert_contact(number, self.NEW)
            self.check_rest(board, edited)
            expected = list(CONTACTS)
            expected.insert(number, self.NEW)
            self.assertEqual(edited.contacts, tuple(expected))
            self.assertEqual(board.contacts, CONTACTS)

    def test_insert_into_none(self):
        edited = board_with(contacts=[]).insert_contact(0, self.NEW)
        self.assertEqual(edited.contacts, (self.NEW,))

    def test_remove(self):
        board = board_with()
        for number in range(6):
            edited = board.without_contact(number)
            self.check_rest(board, edited)
            expected = list(CONTACTS)
            del expected[number]
            self.assertEqual(edited.contacts, tuple(expected))
            self.assertEqual(board.contacts, CONTACTS)

    def test_remove_one_of_two_equal_contacts(self):
        board = board_with(contacts=[CONTACTS[0], CONTACTS[1], CONTACTS[0]])
        self.assertEqual(board.without_contact(2).contacts, CONTACTS[:2])
        self.assertEqual(board.without_contact(0).contacts, (CONTACTS[1], CONTACTS[0]))

    def test_unknown_numbers(self):
        board = board_with()
        for number in (-1, -2, -6, -7, -100, 6, 7, 8, 100):
            for edit in (
                lambda: board.replace_contact(number, self.NEW),
                lambda: board.without_contact(number),
            ):
                with self.subTest(number=number), self.assertRaises(UnknownNumber) as caught:
                    edit()
                self.assertEqual(caught.exception.number, number)
        for number in (-1, -6, -7, 7, 8, 100):
            with self.subTest(number=number), self.assertRaises(UnknownNumber) as caught:
                board.insert_contact(number, self.NEW)
            self.assertEqual(caught.exception.number, number)

    def test_unknown_numbers_without_contacts(self):
        board = board_with(contacts=[])
        for number in (-1, 0, 1):
            with self.assertRaises(UnknownNumber) as caught:
                board.without_contact(number)
            self.assertEqual(caught.exception.number, number)
            with self.assertRaises(UnknownNumber) as caught:
                board.replace_contact(number, self.NEW)
            self.assertEqual(caught.exception.number, number)
        for number in (-1, 1):
            with self.assertRaises(UnknownNumber) as caught:
                board.insert_contact(number, self.NEW)
            self.assertEqual(caught.exception.number, number)

    def test_unknown_number_comes_before_invalid_board(self):
        wrong = ("x", "x", "zz", "open", "back")
        board = board_with()
        for number in (-1, 6):
            with self.assertRaises(UnknownNumber):
                board.replace_contact(number, wrong)
        for number in (-1, 7):
            with self.assertRaises(UnknownNumber):
                board.insert_contact(number, wrong)
        full = board_with(contacts=[CONTACTS[0]] * 40)
        for number in (-1, 41):
            with self.assertRaises(UnknownNumber):
                full.insert_contact(number, CONTACTS[0])

    def test_invalid_board(self):
        wrong = ("x", "x", "s", "make", "both")
        board = board_with()
        with self.assertRaises(InvalidBoard):
            board.replace_contact(5, wrong)
        with self.assertRaises(InvalidBoard):
            board.insert_contact(6, wrong)
        with self.assertRaises(InvalidBoard):
            board.insert_contact(0, ("p", "x", None, "break", "both"))

    def test_the_most_contacts(self):
        full = board_with(contacts=[CONTACTS[0]] * 40)
        for number in (0, 39, 40):
            with self.assertRaises(InvalidBoard):
                full.insert_contact(number, CONTACTS[0])
        self.assertEqual(len(full.replace_contact(39, self.NEW).contacts), 40)
        self.assertEqual(len(full.without_contact(39).insert_contact(39, self.NEW).contacts), 40)


class TestKeeping(unittest.TestCase):
    def test_lists_and_tuples(self):
        for kind in (list, tuple):
            for sizes in ((2, 0, 0, 1, 0), (16, 6, 8, 8, 40), (4, 2, 3, 2, 9)):
                board = sized_board(*sizes, kind=kind)
                counts = tuple(len(part) for part in parts_of(board))
                self.assertEqual(counts, (sizes[0], sizes[1], sizes[2], sizes[3], sizes[4]))
                for part in parts_of(board):
                    self.assertIs(type(part), tuple)
                for part in board.relays + board.lamps + board.contacts:
                    self.assertIs(type(part), tuple)
        self.assertEqual(
            parts_of(sized_board(5, 3, 3, 3, 12, kind=list)),
            parts_of(sized_board(5, 3, 3, 3, 12, kind=tuple)),
        )

    def test_the_parts_are_those_given(self):
        self.assertEqual(parts_of(board_with()), (NODES, SWITCHES, RELAYS, LAMPS, CONTACTS))

    def test_parts_that_need_not_be_given(self):
        board = Board(nodes=["p", "m"], lamps=[("l", "p", "m")])
        self.assertEqual((board.switches, board.relays, board.contacts), ((), (), ()))

    def test_parameters(self):
        parameters = inspect.signature(Board).parameters
        self.assertEqual(list(parameters), ["nodes", "lamps", "switches", "relays", "contacts"])
        for parameter in parameters.values():
            self.assertIs(parameter.kind, inspect.Parameter.KEYWORD_ONLY)

    def test_class_values(self):
        self.assertEqual(
            (
                Board.MOST_NODES,
                Board.MOST_SWITCHES,
                Board.MOST_RELAYS,
                Board.MOST_LAMPS,
                Board.MOST_CONTACTS,
            ),
            (16, 6, 8, 8, 40),
        )

    def test_copies_are_kept(self):
        given = {
            "nodes": list(NODES),
            "switches": list(SWITCHES),
            "relays": list(RELAYS),
            "lamps": list(LAMPS),
            "contacts": list(CONTACTS),
        }
        board = Board(**given)
        for part in given.values():
            part.reverse()
            part.pop()
        self.assertEqual(parts_of(board), (NODES, SWITCHES, RELAYS, LAMPS, CONTACTS))
        self.assertEqual(board.movers, ("s", "t", "r", "q"))
        self.assertEqual(board.contacts_of("s"), [0, 3])
        for part in given.values():
            part.clear()
        self.assertEqual(board.contacts_at("p"), [0, 1, 4])
        self.assertEqual((board.plus, board.minus), ("p", "m"))

    def test_arguments_are_not_changed(self):
        given = {
            "nodes": list(NODES),
            "switches": list(SWITCHES),
            "relays": list(RELAYS),
            "lamps": list(LAMPS),
            "contacts": list(CONTACTS),
        }
        Board(**given)
        self.assertEqual(
            [tuple(part) for part in given.values()], [NODES, SWITCHES, RELAYS, LAMPS, CONTACTS]
        )

    def test_each_list_is_a_new_one(self):
        board = board_with()
        for question in (
            lambda: board.contacts_of("s"),
            lambda: board.contacts_at("p"),
            board.wires,
        ):
            first = question()
            kept = list(first)
            self.assertIs(type(first), list)
            first.append(99)
            first.reverse()
            self.assertEqual(question(), kept)
            self.assertIsNot(question(), question())

    def test_questions_and_edits_do_not_change_a_board(self):
        board = board_with()
        before = parts_of(board)
        board.replace_contact(0, CONTACTS[1])
        board.insert_contact(0, CONTACTS[1])
        board.without_contact(0)
        board.contacts_of("s")
        with self.assertRaises(UnknownName):
            board.contacts_at("s")
        self.assertEqual(parts_of(board), before)
        self.assertEqual(board.movers, ("s", "t", "r", "q"))

    def test_the_example(self):
        board = Board(
            nodes=["p", "m", "x"],
            lamps=[("l", "x", "m")],
            switches=["s"],
            contacts=[("p", "x", "s", "make", "both")],
        )
        self.assertEqual(board.movers, ("s",))
        self.assertEqual(board.contacts_at("x"), [0])
        with self.assertRaises(UnknownNumber) as caught:
            board.without_contact(1)
        self.assertEqual(caught.exception.number, 1)


class TestFaces(unittest.TestCase):
    def check(self, one, other, same):
        self.assertIs(same_face(one, other), same)
        self.assertIs(same_face(other, one), same)
        if same:
            self.assertIsNone(check_faces(one, other))
            self.assertIsNone(check_faces(other, one))
        else:
            with self.assertRaises(DifferentFaces):
                check_faces(one, other)
            with self.assertRaises(DifferentFaces):
                check_faces(other, one)

    def test_the_same_board(self):
        board = board_with()
        self.check(board, board, True)
        self.check(board, board_with(), True)

    def test_all_other_parts_different(self):
        other = Board(
            nodes=["u", "v"],
            switches=SWITCHES,
            relays=[("x", "u", "v")],
            lamps=[("l", "u", "v"), ("k", "v", "u")],
            contacts=[("u", "v", "x", "break", "forward")],
        )
        self.check(board_with(), other, True)
        self.check(board_with(), board_with(contacts=[]), True)
        self.check(board_with(), board_with(relays=[], contacts=[]), True)
        self.check(board_with(), board_with(nodes=["m", "p", "x", "y"]), True)

    def test_switches(self):
        lists = [["t", "s"], ["s"], ["t"], [], ["s", "t", "u"], ["s", "u"], ["u", "s", "t"]]
        for switches in lists:
            with self.subTest(switches=switches):
                self.check(board_with(contacts=[]), board_with(switches=switches, contacts=[]), False)

    def test_lamps(self):
        l, k, j = ("l", "x", "m"), ("k", "m", "y"), ("j", "x", "y")
        for lamps in ([k, l], [l], [k], [l, k, j], [l, j], [j, l, k]):
            with self.subTest(lamps=lamps):
                self.check(board_with(), board_with(lamps=lamps), False)
        self.check(board_with(), board_with(lamps=[("l", "p", "y"), ("k", "x", "y")]), True)

    def test_a_relay_in_the_place_of_a_switch(self):
        one = Board(nodes=["p", "m"], switches=["a", "b"], lamps=[("l", "p", "m")])
        other = Board(
            nodes=["p", "m"], switches=["a"], relays=[("b", "p", "m")], lamps=[("l", "p", "m")]
        )
        self.check(one, other, False)

    def test_on_many_boards(self):
        for seed in range(40):
            one, other = odd_board(seed), busy_board(seed + 1)
            names = [lamp[0] for lamp in one.lamps] == [lamp[0] for lamp in other.lamps]
            self.check(one, other, one.switches == other.switches and names)

    def test_numbers_of_other_parts_do_not_matter(self):
        self.check(sized_board(nodes=4), sized_board(nodes=7, relays=5, contacts=9), True)


if __name__ == "__main__":
    unittest.main()
