import unittest

from leverhouse.boards import Board
from leverhouse.errors import InvalidBoard, InvalidNotation
from leverhouse.notation import format_board, parse_board
from tests.samples import Dice, busy_board, odd_board, parts_of, sized_board

HEAD = "nodes p m x\nswitches s t"
BODY = "relay r x m\nrelay q m x\nlamp l x m\nlamp k p x"
TAIL = "contact p x s make both\ncontact x m r break forward\ncontact p x - make both"
WHOLE = HEAD + "\n" + BODY + "\n" + TAIL

# Each board with its text, written by hand.
WRITTEN = [
    (
        Board(nodes=["p", "m"], lamps=[("l", "p", "m")]),
        "nodes p m\nswitches\nlamp l p m",
    ),
    (
        Board(nodes=["p", "m"], lamps=[("l", "p", "m")], contacts=[("p", "m", None, "make", "forward")]),
        "nodes p m\nswitches\nlamp l p m\ncontact p m - make forward",
    ),
    (
        Board(nodes=["b", "a"], switches=["s"], lamps=[("l", "a", "b"), ("k", "b", "a")]),
        "nodes b a\nswitches s\nlamp l a b\nlamp k b a",
    ),
    (
        Board(nodes=["p", "m"], relays=[("s", "m", "p")], lamps=[("s", "p", "m")]),
        "nodes p m\nswitches\nrelay s m p\nlamp s p m",
    ),
    (
        Board(
            nodes=["p", "m", "x"],
            switches=["s", "t"],
            relays=[("r", "x", "m"), ("q", "m", "x")],
            lamps=[("l", "x", "m"), ("k", "p", "x")],
            contacts=[
                ("p", "x", "s", "make", "both"),
                ("x", "m", "r", "break", "forward"),
                ("p", "x", None, "make", "both"),
            ],
        ),
        WHOLE,
    ),
    (
        Board(
            nodes=["nodes", "make", "both"],
            switches=["switches", "contact"],
            relays=[("relay", "both", "make"), ("lamp", "make", "nodes")],
            lamps=[("lamp", "both", "make")],
            contacts=[("make", "both", "lamp", "make", "both")],
        ),
        "nodes nodes make both\nswitches switches contact\nrelay relay both make\n"
        "relay lamp make nodes\nlamp lamp both make\ncontact make both lamp make both",
    ),
]


def is_written_form(lines):
    """True if the lines, read without any thought of where a fault is, tell a board."""
    words = [line.split(" ") for line in lines]
    if len(words) < 2 or words[0][0] != "nodes" or words[1][0] != "switches":
        return False
    rows = {"relay": [], "lamp": [], "contact": []}
    for row in words[2:]:
        if row[0] not in rows:
            return False
        rows[row[0]].append(row[1:])
    if [row[0] for row in words[2:]] != [word for word in rows for _ in rows[word]]:
        return False
    if [row for row in rows["relay"] + rows["lamp"] if len(row) != 3]:
        return False
    if [row for row in rows["contact"] if len(row) != 5]:
        return False
    try:
        Board(
            nodes=words[0][1:],
            switches=words[1][1:],
            relays=[tuple(row) for row in rows["relay"]],
            lamps=[tuple(row) for row in rows["lamp"]],
            contacts=[(*row[:2], None if row[2] == "-" else row[2], *row[3:]) for row in rows["contact"]],
        )
    except InvalidBoard:
        return False
    return True


def can_go_on(lines):
    """True if some lines behind these, or none, make them a written form."""
    nodes = lines[0].split(" ")[1:]
    if len(nodes) < 2:
        return False
    lamp = f"lamp zzz {nodes[0]} {nodes[1]}"
    return is_written_form(lines) or is_written_form([*lines, lamp]) or (
        len(lines) == 1 and is_written_form([*lines, "switches", lamp])
    )


def faulty_line(text):
    """The line that InvalidNotation has to name for the text, or None."""
    lines = text.split("\n")
    for count in range(1, len(lines) + 1):
        if not can_go_on(lines[:count]):
            return count
    return None if is_written_form(lines) else len(lines) + 1


class TestFormat(unittest.TestCase):
    def test_texts_by_hand(self):
        for board, text in WRITTEN:
            self.assertEqual(format_board(board), text)

    def test_the_most_of_each(self):
        board = sized_board(16, 6, 8, 8, 40)
        lines = format_board(board).split("\n")
        self.assertEqual(len(lines), 2 + 8 + 8 + 40)
        self.assertEqual(lines[0].split(" "), ["nodes", *board.nodes])
        self.assertEqual(lines[1].split(" "), ["switches", *board.switches])
        for line, relay in zip(lines[2:10], board.relays, strict=True):
            self.assertEqual(line.split(" "), ["relay", *relay])
        for line, lamp in zip(lines[10:18], board.lamps, strict=True):
            self.assertEqual(line.split(" "), ["lamp", *lamp])
        for line, contact in zip(lines[18:], board.contacts, strict=True):
            one, other, mover, when, way = contact
            self.assertEqual(line.split(" "), ["contact", one, other, mover or "-", when, way])


class TestParse(unittest.TestCase):
    def check_board(self, board):
        text = format_board(board)
        again = parse_board(text)
        self.assertIsInstance(again, Board)
        self.assertEqual(parts_of(again), parts_of(board))
        self.assertEqual(format_board(again), text)

    def test_texts_by_hand(self):
        for board, text in WRITTEN:
            self.assertEqual(parts_of(parse_board(text)), parts_of(board))

    def test_there_and_back(self):
        for seed in range(80):
            self.check_board(odd_board(seed, 6, 8, 40))
            self.check_board(busy_board(seed))
        for sizes in ((16, 6, 8, 8, 40), (2, 0, 0, 1, 0), (2, 6, 0, 8, 0), (2, 0, 8, 1, 40)):
            self.check_board(sized_board(*sizes))

    def check_line(self, text, line):
        self.assertEqual(faulty_line(text), line)
        with self.subTest(text=text):
            with self.assertRaises(InvalidNotation) as caught:
                parse_board(text)
            self.assertEqual(caught.exception.line, line)

    def test_the_example(self):
        self.check_line("nodes p m\nswitches\nlamp l p p", 3)

    def test_texts_that_end_too_early(self):
        self.check_line("", 1)
        self.check_line("nodes p m", 2)
        self.check_line("nodes p m\nswitches", 3)
        self.check_line("nodes p m\nswitches s", 3)
        self.check_line("nodes p m\nswitches\nrelay r p m", 4)
        self.check_line("nodes p m\nswitches\nrelay r p m\nrelay q p m", 5)
        relays = "\n".join([f"relay r{k} p m" for k in range(8)])
        self.check_line("nodes p m\nswitches\n" + relays, 11)

    def test_empty_lines(self):
        self.check_line("\n", 1)
        self.check_line("\n" + WHOLE, 1)
        lines = WHOLE.split("\n")
        for count in range(1, len(lines) + 1):
            self.check_line("\n".join([*lines[:count], "", *lines[count:]]), count + 1)
        self.check_line(WHOLE + "\n", 10)
        self.check_line(WHOLE + "\n\n", 10)
        self.check_line("nodes p m\n", 2)
        self.check_line("nodes p m\nswitches\n", 3)
        self.check_line("nodes p m\nswitches\nlamp l p m\n", 4)

    def test_empty_words_and_other_blanks(self):
        lines = WHOLE.split("\n")
        for number, line in enumerate(lines):
            for wrong in (" " + line, line + " ", line.replace(" ", "  ", 1), "\t" + line):
                self.check_line("\n".join([*lines[:number], wrong, *lines[number + 1:]]), number + 1)
            for wrong in (line.replace(" ", "\t", 1), line + "\r", line + "\t", line + "\u00a0"):
                self.check_line("\n".join([*lines[:number], wrong, *lines[number + 1:]]), number + 1)
        self.check_line("nodes p m\nswitches \nlamp l p m", 2)
        self.check_line("nodes p m\nswitches\nlamp l p m ", 3)
        self.check_line(" ", 1)
        self.check_line(WHOLE.replace("\n", "\r\n"), 1)
        self.check_line(WHOLE.replace("\n", "\r"), 1)

    def test_first_lines(self):
        for line in (
            "nodes",
            "nodes p",
            "nodes p p",
            "nodes p m p",
            "nodes p M",
            "nodes p aaaaaaaaaaaaa",
            "nodes p m " + " ".join([f"n{k}" for k in range(15)]),
            "node p m",
            "Nodes p m",
            "p m",
            "switches",
            "lamp l p m",
            "contact p m - make both",
        ):
            self.check_line(line, 1)
            self.check_line(line + "\nswitches\nlamp l p m", 1)
        text = "nodes p m " + " ".join([f"n{k}" for k in range(14)]) + "\nswitches\nlamp l p m"
        self.assertEqual(len(parse_board(text).nodes), 16)

    def test_second_lines(self):
        for line in (
            "switches s s",
            "switches s t s",
            "switches S",
            "switches -",
            "switches a b c d e f g",
            "switch s",
            "switch",
            "s",
            "nodes p m",
            "relay r p m",
            "lamp l p m",
            "contact p m - make both",
        ):
            self.check_line("nodes p m\n" + line, 2)
            self.check_line("nodes p m\n" + line + "\nlamp l p m", 2)
        text = "nodes p m\nswitches a b c d e p\nlamp l p m"
        self.assertEqual(len(parse_board(text).switches), 6)

    def test_lines_of_relays(self):
        for line in (
            "relay",
            "relay r",
            "relay r x",
            "relay r x m p",
            "relay r x x",
            "relay r z m",
            "relay r x z",
            "relay r x s",
            "relay R x m",
            "relay - x m",
            "relay aaaaaaaaaaaaa x m",
            "relay s x m",
            "relay t x m",
            "relays r x m",
            "coil r x m",
            "r x m",
            "nodes p m x",
            "switches s t",
            "contact p x s make both",
        ):
            self.check_line(HEAD + "\n" + line, 3)
            self.check_line(HEAD + "\n" + line + "\nlamp l x m", 3)
            self.check_line(HEAD + "\nrelay o p x\n" + line, 4)
        self.check_line(HEAD + "\nrelay r x m\nrelay r p x\nlamp l x m", 4)
        self.check_line(HEAD + "\nrelay r x m\nrelay q p x\nrelay r x m\nlamp l x m", 5)
        for name in ("p", "m", "x", "l", "relay", "lamp"):
            text = HEAD + f"\nrelay {name} x m\nlamp l x m"
            self.assertEqual(parse_board(text).relays, ((name, "x", "m"),))

    def test_lines_of_lamps(self):
        for line in (
            "lamp",
            "lamp k",
            "lamp k x",
            "lamp k x m p",
            "lamp k x x",
            "lamp k z m",
            "lamp k x z",
            "lamp k r m",
            "lamp K x m",
            "lamp - x m",
            "lamp aaaaaaaaaaaaa x m",
            "lamps k x m",
            "k x m",
            "nodes p m x",
            "switches s t",
        ):
            self.check_line(HEAD + "\nrelay r x m\n" + line, 4)
            self.check_line(HEAD + "\nrelay r x m\n" + line + "\nlamp j x m", 4)
            self.check_line(HEAD + "\nrelay r x m\nlamp l p x\n" + line, 5)
        self.check_line(HEAD + "\nlamp l x m\nlamp l p m", 4)
        self.check_line(HEAD + "\nlamp l x m\nlamp k p m\nlamp l x m", 5)
        self.check_line(HEAD + "\nlamp l x m\nrelay r x m", 4)
        for name in ("p", "m", "x", "s", "r", "lamp", "contact"):
            text = HEAD + f"\nrelay r x m\nlamp {name} x m"
            self.assertEqual(parse_board(text).lamps, ((name, "x", "m"),))

    def test_lines_of_contacts(self):
        for line in (
            "contact",
            "contact p",
            "contact p x",
            "contact p x s",
            "contact p x s make",
            "contact p x s make both both",
            "contact p p s make both",
            "contact z x s make both",
            "contact p z s make both",
            "contact s x s make both",
            "contact p x z make both",
            "contact p x l make both",
            "contact p x p make both",
            "contact p x None make both",
            "contact p x -- make both",
            "contact - x s make both",
            "contact p - s make both",
            "contact p x s - both",
            "contact p x s make -",
            "contact p x s open both",
            "contact p x s Make both",
            "contact p x s make back",
            "contact p x s both make",
            "contact p x - break both",
            "contact p x - break forward",
            "contacts p x s make both",
            "p x s make both",
            "nodes p m x",
            "switches s t",
            "relay o x m",
        ):
            self.check_line(HEAD + "\n" + BODY + "\n" + line, 7)
            self.check_line(WHOLE + "\n" + line, 10)
            self.check_line(WHOLE + "\n" + line + "\ncontact p x s make both", 10)
        self.check_line(WHOLE + "\nlamp j x m", 10)
        self.check_line(HEAD + "\ncontact p x s make both\nlamp j x m", 3)
        self.check_line(HEAD + "\nrelay r x m\ncontact p x s make both\nlamp j x m", 4)

    def test_one_part_too_many(self):
        head = "nodes p m\nswitches s"
        relays = [f"relay r{k} p m" for k in range(9)]
        lamps = [f"lamp l{k} p m" for k in range(9)]
        contacts = ["contact p m s make both"] * 41
        self.check_line("\n".join([head, *relays]), 11)
        self.check_line("\n".join([head, *relays, *lamps[:8]]), 11)
        self.check_line("\n".join([head, *relays[:8], *lamps]), 19)
        self.check_line("\n".join([head, *relays[:8], *lamps, *contacts]), 19)
        self.check_line("\n".join([head, *relays[:8], *lamps[:8], *contacts]), 59)
        self.check_line("\n".join([head, *lamps[:1], *contacts, "contact"]), 44)
        board = parse_board("\n".join([head, *relays[:8], *lamps[:8], *contacts[:40]]))
        self.assertEqual((len(board.relays), len(board.lamps), len(board.contacts)), (8, 8, 40))

    def test_the_first_of_several_faults(self):
        self.check_line("nodes p m x\nswitches s s\nlamp l x x", 2)
        self.check_line("nodes p m x\nswitches s\nrelay s x m\nlamp l x x", 3)
        self.check_line("nodes p m x\nswitches s\nlamp l x x\nrelay s x m", 3)
        self.check_line("nodes p m x\nswitches s\nlamp l x m\ncontact x x s make both\nfoo", 4)
        self.check_line("nodes p p\nswitches\n\n\n", 1)

    def test_one_fault_in_good_texts(self):
        wrong_words = ["", "-", "p", "m", "s0", "r0", "l0", "make", "break", "both", "forward", "Z", "lamp"]
        for seed in range(120):
            dice = Dice(seed)
            lines = format_board(busy_board(seed, 1, 2)).split("\n")
            number = dice.below(len(lines))
            words = lines[number].split(" ")
            change = dice.below(6)
            if change == 0:
                words[dice.below(len(words))] = dice.pick(wrong_words)
            elif change == 1:
                del words[dice.below(len(words))]
            elif change == 2:
                words.insert(dice.below(len(words) + 1), dice.pick(wrong_words))
            lines[number] = " ".join(words)
            if change == 3:
                del lines[number]
            elif change == 4:
                lines.insert(dice.below(len(lines) + 1), lines[number])
            elif change == 5:
                lines = lines[:number]
            text = "\n".join(lines)
            line = faulty_line(text)
            if line is None:
                self.assertEqual(format_board(parse_board(text)), text)
            else:
                self.check_line(text, line)


if __name__ == "__main__":
    unittest.main()
