import unittest

from leverhouse.bench import Workbench
from leverhouse.notation import format_board
from leverhouse.session import Session
from tests.benches import BUZZER, FOLLOWED, HASTY, LAMP, LATE, RENAMED, TWO_SWITCHES, wide_board
from tests.samples import Dice, parts_of, small_board, small_contact
from tests.slow_bench import history, told_bench
from tests.slow_session import SlowSession

BRIGHT = small_board("a", "s", [], ["xa"], ["pa-"])
WIDE = wide_board(6, 6)

BLOCK = "board {}\n{}\nend"
LAMP_LINES = ["nodes p m a", "switches s", "lamp x a m", "contact p a s make both"]


def block(name, board):
    return BLOCK.format(name, format_board(board))


def session_with(**boards):
    """A session with these boards."""
    session = Session()
    for name, board in boards.items():
        session.run(block(name, board))
    return session


class SessionTest(unittest.TestCase):
    def check(self, session, text, *expected):
        found = session.run(text)
        self.assertEqual((found, type(found)), (list(expected), list))

    def check_nothing_done(self, session, text, *expected):
        before = history(session.bench)
        self.check(session, text, *expected)
        self.assertEqual(history(session.bench), before)


class TestLines(SessionTest):
    def test_a_new_session(self):
        session = Session()
        self.assertIsInstance(session.bench, Workbench)
        self.assertEqual(told_bench(session.bench), ([], []))
        self.assertEqual((session.bench.decided, session.bench.kept), (0, 0))
        other = Session()
        other.run(block("b", LAMP))
        self.assertEqual(told_bench(session.bench), ([], []))

    def test_the_empty_text(self):
        session = Session()
        for text in ("", "\n", "\n\n\n", "   ", "  \n \n"):
            self.check(session, text)

    def test_blanks(self):
        session = Session()
        self.check(session, "   board    b  \n  nodes   p m    a\nswitches\n lamp x   a m \n   end ", "ok", "ok")
        self.check(session, " show     boards   ", "boards: b")
        self.assertEqual(session.bench.board("b").nodes, ("p", "m", "a"))

    def test_other_characters_are_no_blanks(self):
        session = session_with(b=LAMP)
        before = told_bench(session.bench)
        lines = ["cut\tb 0", "cut b\t0", "cut b 0\t", "\tcut b 0", "cut b 0\r", "\t", "cut\u00a0b 0", "cut b 0\x0b"]
        for line in lines:
            self.check(session, line, "line 1: invalid command")
        # No other character ends a line.
        self.check(session, "cut b 0\rcut b 0", "line 1: invalid command")
        self.check(session, "undo\x0cundo\u2028undo\x85undo", "line 1: invalid command")
        self.assertEqual(told_bench(session.bench), before)

    def test_numbers_of_lines(self):
        session = session_with(b=LAMP)
        self.check(session, "x\ncut b 0\nx\n\n   \nx", "line 1: invalid command", "ok", "line 3: invalid command",
                   "line 6: invalid command")
        # They begin at 1 again.
        self.check(session, "\nx", "line 2: invalid command")
        self.check(session, "x", "line 1: invalid command")
        self.check(session, "\n\nanswer q\n", "line 3: unknown name q")
        self.check(session, "show boards\n" * 11 + "redo", *["boards: b"] * 11, "line 12: nothing to redo")

    def test_lines_of_a_block_have_numbers(self):
        session = Session()
        self.check(session, "\n" + block("b", LAMP) + "\n\ncut b 3", "ok", "ok", "line 9: unknown number 3")

    def test_the_lines_behind_an_error_are_done(self):
        session = session_with(b=LAMP)
        self.check(session, "cut b 7\ncut c 0\nnone\ncut b 0\nprint b", "line 1: unknown number 7",
                   "line 2: unknown name c", "line 3: invalid command", "ok", "nodes p m a", "switches s", "lamp x a m")

    def test_the_lists_are_new(self):
        session = session_with(b=LAMP)
        session.run("show boards").clear()
        self.check(session, "show boards", "boards: b")

    def test_a_line_that_is_no_command_does_nothing(self):
        session = session_with(b=LAMP)
        session.run("cut b 0\nundo")
        for line in (
            "cut", "cut b", "cut b 0 0", "cut b 00", "cut b 12345", "cut b -1", "cut B 0", "cut b a", "undo 1",
            "redo b", "board", "board B", "board b c", "board -", "board abcdefghijklm", "remove", "drop b b",
            "end", "ask q settles 0",
            "ask q settles 9 b", "ask q settles 10 b", "ask q settles b 0", "ask q - 0 b", "ask q settles 0 b -",
            "replace b 0 p a s make", "replace b 0 p a s make both both", "replace b 0 p a s both make",
            "insert b 0 p a S make both", "insert b 0 p - s make both", "insert b 01 p a s make both", "show", "show b",
            "show boards b", "answer", "answer q q", "answers q", "print", "print b b", "nodes p m", "BOARD b", "Undo",
        ):
            self.check_nothing_done(session, line, "line 1: invalid command")
        self.check(session, "redo", "ok")

    def test_it_is_decided_by_the_words_alone(self):
        session = Session()
        # None of these could be done, but all of them are commands.
        for line, expected in (
            ("cut b 0", "unknown name b"),
            ("ask q parts 0 b", "unknown name parts"),
            ("ask q settles 8 b", "unknown name b"),
            ("replace b 9999 p p - break both", "unknown name b"),
            ("drop abcdefghijkl", "unknown name abcdefghijkl"),
        ):
            self.check(session, line, f"line 1: {expected}")


class TestBlocks(SessionTest):
    def test_ordinary_ones(self):
        for board in (LAMP, FOLLOWED, BUZZER, LATE, WIDE, small_board("", "", [], ["xp"], [])):
            session = Session()
            self.check(session, block("b", board), "ok", "ok")
            self.assertEqual(parts_of(session.bench.board("b")), parts_of(board))

    def test_over_several_calls(self):
        session = Session()
        self.check(session, "board b", "ok")
        self.check(session, "nodes p m a\nswitches s")
        self.check(session, "")
        self.check(session, "lamp x a m\n\n")
        self.assertEqual(session.bench.board_names(), [])
        self.check(session, "contact p a s make both\nend\nshow boards", "ok", "boards: b")
        self.assertEqual(parts_of(session.bench.board("b")), parts_of(LAMP))

    def test_the_board_is_set_at_the_end(self):
        session = session_with(b=LAMP)
        session.run("board b\n" + format_board(FOLLOWED))
        self.assertEqual(parts_of(session.bench.board("b")), parts_of(LAMP))
        session.run("end")
        self.assertEqual(parts_of(session.bench.board("b")), parts_of(FOLLOWED))

    def test_opening_a_block_is_no_change(self):
        session = session_with(b=LAMP)
        session.run("cut b 0\nundo")
        before = history(session.bench)
        self.check(session, "board c", "ok")
        self.assertEqual(history(session.bench), before)
        # The block without lines has an empty text.
        self.check(session, "end", "line 1: invalid board 1")
        self.assertEqual(history(session.bench), before)
        self.check(session, "redo", "ok")

    def test_a_block_is_one_change(self):
        session = session_with(b=LAMP)
        session.run(block("b", FOLLOWED))
        self.check(session, "undo", "ok")
        self.assertEqual(parts_of(session.bench.board("b")), parts_of(LAMP))
        self.check(session, "undo\nshow boards\nundo", "ok", "boards:", "line 3: nothing to undo")
        self.check(session, "redo\nredo\nredo", "ok", "ok", "line 3: nothing to redo")
        self.assertEqual(parts_of(session.bench.board("b")), parts_of(FOLLOWED))

    def test_blanks_in_lines(self):
        session = Session()
        lines = ["  nodes   p m  a ", "switches    s", " lamp x  a   m", "contact   p a s   make both   "]
        self.check(session, BLOCK.format("b", "\n".join(lines)), "ok", "ok")
        self.assertEqual(parts_of(session.bench.board("b")), parts_of(LAMP))

    def test_lines_without_words_are_not_taken(self):
        session = Session()
        text = "\n\n  \n".join(LAMP_LINES)
        self.check(session, f"board b\n\n{text}\n   \n\nend", "ok", "ok")
        self.assertEqual(parts_of(session.bench.board("b")), parts_of(LAMP))

    def test_end_with_another_word(self):
        session = Session()
        self.check(session, "board b\n" + "\n".join(LAMP_LINES) + "\nend b\nend", "ok", "line 7: invalid board 5")
        self.check(session, "board b\nend end\nb end\nEnd\nend.\nend", "ok", "line 6: invalid board 1")
        self.assertEqual(session.bench.board_names(), [])

    def test_end_outside_of_a_block(self):
        session = session_with(b=LAMP)
        self.check_nothing_done(session, "end", "line 1: invalid command")
        self.check_nothing_done(session, "  end  \nend b", "line 1: invalid command", "line 2: invalid command")

    def test_commands_in_a_block_are_taken(self):
        session = session_with(b=LAMP)
        before = history(session.bench)
        commands = "undo\nboard c\nanswers\nshow boards\nprint b\ncut b 0\nno command"
        self.check(session, f"board b\n{commands}", "ok")
        self.assertEqual(history(session.bench), before)
        self.check(session, "end\nshow boards", "line 1: invalid board 1", "boards: b")
        self.assertEqual(history(session.bench), before)

    def test_no_written_form(self):
        for lines, wrong in (
            ([], 1),
            (["nodes p m a"], 2),
            (["nodes p"], 1),
            (["switches s"], 1),
            (["nodes p m a", "switches s"], 3),
            (["nodes p m a", "switches s", "contact p a s make both"], 3),
            (["nodes p m a", "switches s", "lamp x a a"], 3),
            ([*LAMP_LINES, "contact p a t make both"], 5),
            ([*LAMP_LINES, "lamp y a m"], 5),
            ([*LAMP_LINES, "contact\tp a s make both"], 5),
            ([*LAMP_LINES[:3], "contact p a - break both", LAMP_LINES[3]], 4),
        ):
            for name in ("b", "c"):
                session = session_with(b=FOLLOWED)
                session.run("undo\nredo")
                text = "\n".join(["", "board " + name, *lines, "end", "print b"])
                told = format_board(FOLLOWED).split("\n")
                self.check_nothing_done(session, text, "ok", f"line {len(lines) + 3}: invalid board {wrong}", *told)
                # The block is closed.
                self.check(session, "end", "line 1: invalid command")

    def test_a_board_that_fails_leaves_what_can_be_redone(self):
        session = session_with(b=FOLLOWED)
        session.run("cut b 0\nundo")
        self.check_nothing_done(session, "board b\nnodes\nend", "ok", "line 3: invalid board 1")
        self.check(session, "redo", "ok")

    def test_only_taken_lines_are_counted(self):
        session = Session()
        text = "show boards\nboard b\n\nnodes p m a\n\n\nswitches s\n\nlamp x a q\nend"
        self.check(session, text, "boards:", "ok", "line 10: invalid board 3")
        self.check(session, "board b\nnodes p m a\n\nswitches s", "ok")
        self.check(session, "\nlamp x a q\nlamp y a m\nend", "line 4: invalid board 3")

    def test_one_block_behind_another_one(self):
        session = Session()
        self.check(session, "board b\nnodes p\nend\n" + block("b", LAMP), "ok", "line 3: invalid board 1", "ok", "ok")
        self.assertEqual(parts_of(session.bench.board("b")), parts_of(LAMP))
        self.check(session, block("c", FOLLOWED) + "\n" + block("b", FOLLOWED), *["ok"] * 4)
        self.assertEqual(parts_of(session.bench.board("b")), parts_of(FOLLOWED))

    def test_names_of_boards(self):
        session = Session()
        for name in ("end", "board", "0", "abcdefghijkl"):
            self.check(session, block(name, LAMP), "ok", "ok")
        self.check(session, "show boards", "boards: 0 abcdefghijkl board end")


class TestCommands(SessionTest):
    def test_contacts(self):
        session = session_with(b=FOLLOWED)
        self.check(session, "replace b 1 p b s break forward", "ok")
        self.assertEqual(session.bench.board("b").contacts[1], ("p", "b", "s", "break", "forward"))
        self.check(session, "insert b 0 b a - make both", "ok")
        self.assertEqual(session.bench.board("b").contacts[0], ("b", "a", None, "make", "both"))
        self.check(session, "insert b 3 a m r make forward", "ok")
        self.assertEqual(session.bench.board("b").contacts[3], ("a", "m", "r", "make", "forward"))
        self.check(session, "cut b 1", "ok")
        expected = tuple(small_contact(text) for text in ("ba-", "pb!s>", "amr>"))
        self.assertEqual(session.bench.board("b").contacts, expected)

    def test_errors_of_contacts(self):
        session = session_with(b=FOLLOWED)
        for line, expected in (
            ("replace c 0 p a s make both", "unknown name c"),
            ("insert c 9 p p s make both", "unknown name c"),
            ("cut c 0", "unknown name c"),
            ("replace b 2 p a s make both", "unknown number 2"),
            ("replace b 9999 p p s make both", "unknown number 9999"),
            ("insert b 3 p p s make both", "unknown number 3"),
            ("cut b 2", "unknown number 2"),
            ("cut b 10", "unknown number 10"),
            ("replace b 0 p p s make both", "invalid contact"),
            ("replace b 0 p c s make both", "invalid contact"),
            ("replace b 0 p a t make both", "invalid contact"),
            ("insert b 2 p a - break both", "invalid contact"),
            ("insert b 0 p z s make both", "invalid contact"),
        ):
            self.check_nothing_done(session, line, f"line 1: {expected}")

    def test_one_contact_too_many(self):
        session = session_with(b=small_board("a", "s", [], ["xa"], ["pas"] * 39))
        line = "insert b 0 p a s make both"
        self.check(session, f"{line}\n{line}", "ok", "line 2: invalid contact")

    def test_ask(self):
        session = session_with(b=LAMP, c=FOLLOWED)
        self.check(session, "ask q settles 0 b\nask p agrees 8 c b", "ok", "ok")
        self.assertEqual(session.bench.question("q"), ("settles", ("b",), 0))
        self.assertEqual(session.bench.question("p"), ("agrees", ("c", "b"), 8))
        self.check(session, "ask q changes 1 b b\nask b races 3 c", "ok", "ok")
        self.assertEqual(session.bench.question("q"), ("changes", ("b", "b"), 1))
        self.assertEqual(session.bench.question("b"), ("races", ("c",), 3))

    def test_errors_of_questions(self):
        session = session_with(b=LAMP)
        for line, expected in (
            ("ask q parts 0 b", "unknown name parts"),
            ("ask q parts 0 b c d", "unknown name parts"),
            ("ask q settles 0 b b", "invalid question"),
            ("ask q races 0 c d", "invalid question"),
            ("ask q agrees 0 b", "invalid question"),
            ("ask q changes 0 c", "invalid question"),
            ("ask q agrees 0 b c d", "invalid question"),
            ("ask q settles 0 c", "unknown name c"),
            ("ask q agrees 0 b d", "unknown name d"),
            ("ask q agrees 0 d c", "unknown name d"),
            ("drop q", "unknown name q"),
            ("drop b", "unknown name b"),
            ("answer b", "unknown name b"),
            ("print q", "unknown name q"),
            ("remove q", "unknown name q"),
        ):
            self.check_nothing_done(session, line, f"line 1: {expected}")

    def test_drop_and_remove(self):
        session = session_with(b=LAMP, c=FOLLOWED)
        session.run("ask q agrees 0 b b")
        self.check(session, "remove b\nremove c\nremove c", "line 1: name in use b", "ok", "line 3: unknown name c")
        self.check(session, "drop q\nremove b\ndrop q", "ok", "ok", "line 3: unknown name q")
        self.assertEqual(told_bench(session.bench), ([], []))

    def test_undo_and_redo(self):
        session = Session()
        self.check(session, "undo\nredo", "line 1: nothing to undo", "line 2: nothing to redo")
        session.run("\n".join([
            block("b", FOLLOWED), block("c", LAMP),
            "replace b 0 p a s break both", "insert b 2 p b - make both", "cut c 0",
            "ask q settles 0 b", "ask b races 1 c", "drop q", "ask b races 0 b", "remove c",
        ]))
        rows, now = history(session.bench)
        self.assertEqual((len(rows), now), (11, 10))
        for row in rows[-2::-1]:
            self.check(session, "undo", "ok")
            self.assertEqual(told_bench(session.bench), row)
        self.check_nothing_done(session, "undo", "line 1: nothing to undo")
        for row in rows[1:]:
            self.check(session, "redo", "ok")
            self.assertEqual(told_bench(session.bench), row)
        self.check_nothing_done(session, "redo", "line 1: nothing to redo")
        self.check(session, "undo\nundo\ndrop b\nredo", "ok", "ok", "ok", "line 4: nothing to redo")

    def test_questions_leave_what_can_be_redone(self):
        session = session_with(b=LAMP)
        session.run("ask q settles 0 b\ncut b 0\nundo")
        session.run("answer q\nanswers\nshow boards\nshow questions\nprint b\nnone\nprint c\n")
        self.check(session, "redo\nprint b", "ok", *LAMP_LINES[:3])

    def test_show(self):
        session = Session()
        self.check(session, "show boards\nshow questions", "boards:", "questions:")
        session = session_with(c=LAMP, b10=LAMP, b9=LAMP)
        self.check(session, "show boards\nshow questions", "boards: b10 b9 c", "questions:")
        session.run("ask z settles 0 c\nask y settles 0 c\nask c settles 0 c")
        self.check(session, "show boards\nshow questions", "boards: b10 b9 c", "questions: c y z")

    def test_print(self):
        for board in (LAMP, FOLLOWED, BRIGHT, WIDE, small_board("", "", [], ["xp"], [])):
            session = session_with(b=board)
            self.check(session, "print b", *format_board(board).split("\n"))
            self.check(session, "print c\nprint b", "line 1: unknown name c", *format_board(board).split("\n"))
        self.check(session_with(b=LAMP), "print b", *LAMP_LINES)
        self.check(session_with(b=BRIGHT), "print b", *LAMP_LINES[:3], "contact p a - make both")
        bare = small_board("", "", [], ["xp"], [])
        self.check(session_with(b=bare), "print b", "nodes p m", "switches", "lamp x p m")

    def test_what_is_printed_can_be_read(self):
        session = session_with(b=FOLLOWED)
        lines = session.run("print b")
        self.check(session, BLOCK.format("c", "\n".join(lines)), "ok", "ok")
        self.assertEqual(parts_of(session.bench.board("c")), parts_of(FOLLOWED))

    def test_the_workbench_may_be_used_itself(self):
        session = Session()
        session.bench.set_board("b", LAMP)
        self.check(session, "ask q settles 0 b\nanswer q", "ok", "q: settles 0")
        session.bench.undo()
        self.check(session, "answer q\nredo\nanswer q", "line 1: unknown name q", "ok", "q: settles 0")
        self.assertEqual((session.bench.decided, session.bench.kept), (1, 1))


class TestAnswers(SessionTest):
    def check_answer(self, words, expected, **boards):
        session = session_with(**boards)
        self.check(session, f"ask q {words}\nanswer q", "ok", f"q: {expected}")
        self.check(session, "answers", f"q: {expected}")

    def test_each_answer(self):
        self.check_answer("settles 0 b", "settles 1", b=FOLLOWED)
        self.check_answer("settles 0 b", "buzzes 1 2", b=LATE)
        self.check_answer("races 0 b", "determinate", b=HASTY)
        self.check_answer("races 1 b", "races 3 2", b=HASTY)
        self.check_answer("races 0 b", "buzzes 0 2", b=BUZZER)
        self.check_answer("agrees 0 b c", "agrees", b=LAMP, c=FOLLOWED)
        self.check_answer("agrees 0 b c", "unsettled other 1 2", b=LAMP, c=LATE)
        self.check_answer("agrees 0 c b", "unsettled one 1 2", b=LAMP, c=LATE)
        self.check_answer("agrees 0 b c", "parts 3 4", b=HASTY, c=FOLLOWED)
        self.check_answer("changes 0 b c", "unseen", b=LAMP, c=FOLLOWED)
        self.check_answer("changes 0 b c", "unsettled one 0 2", b=BUZZER, c=FOLLOWED)
        self.check_answer("changes 0 b c", "round 0 1 2", b=LAMP, c=LATE)
        self.check_answer("changes 0 b c", "seen 3 0 0", b=HASTY, c=RENAMED)
        self.check_answer("agrees 0 b c", "faces", b=LAMP, c=TWO_SWITCHES)
        self.check_answer("settles 8 b", "many 3000", b=WIDE)
        self.check_answer("settles 0 b", "settles 1", b=WIDE)

    def test_answers(self):
        session = Session()
        self.check(session, "answers")
        session = session_with(b=LAMP, c=FOLLOWED)
        session.run("ask z settles 0 b\nask a10 settles 0 c\nask a9 agrees 0 b c\nask b changes 8 b c")
        expected = ["a10: settles 1", "a9: agrees", "b: unseen", "z: settles 0"]
        self.check(session, "answers\nanswer z", *expected, "z: settles 0")
        self.assertEqual((session.bench.decided, session.bench.kept), (4, 1))

    def test_answers_follow_the_boards(self):
        session = session_with(b=LAMP)
        session.run("ask q agrees 0 b b\nask p settles 0 b")
        expected = ["p: settles 0", "q: agrees"]
        text = "answers\ncut b 0\nanswers\nundo\nanswers"
        self.check(session, text, *expected, "ok", *expected, "ok", *expected)
        self.assertEqual((session.bench.decided, session.bench.kept), (4, 2))


class TestManyLines(SessionTest):
    """Long texts of lines, most of which are commands."""

    CONTACTS = [
        "p a s make both", "p a - make forward", "a p r break both", "p p s make both", "p a s make",
        "m a r make both",
    ]
    BLOCKS = [*map(format_board, [LAMP, FOLLOWED, BUZZER]), "nodes p m", format_board(LAMP) + "\nend b"]
    LINES = [
        "undo", "undo", "redo", "answers", "show boards", "show questions", "", "  ", "end", "undo b", "board",
        "nodes p m",
    ]

    def some_line(self, dice):
        name = dice.pick(["a", "b", "c", "longername12"])
        number = dice.pick(["0", "1", "2", "3", "00", "12345"])
        kind = dice.below(10)
        if kind == 0:
            return f"board {name}"
        if kind < 3:
            return BLOCK.format(name, dice.pick(self.BLOCKS))
        if kind == 3:
            return f"{dice.pick(['replace', 'insert'])} {name} {number} {dice.pick(self.CONTACTS)}"
        if kind == 4:
            return f"cut {name} {number}"
        if kind < 7:
            boards = " ".join(dice.pick(["a", "b", "c"]) for _ in range(dice.pick([1, 1, 2, 2, 3, 0])))
            word = dice.pick(["settles", "races", "agrees", "changes", "settle"])
            return f"ask {name} {word} {dice.pick(['0', '0', '1', '9'])} {boards}"
        if kind == 7:
            return dice.pick(["answer", "print", "drop", "remove", "show"]) + f" {name}"
        return dice.pick(self.LINES)

    def some_text(self, dice):
        lines = "\n".join(self.some_line(dice) for _ in range(dice.below(8))).split("\n")
        return "\n".join(line.replace(" ", "  ") if dice.below(9) == 0 else line for line in lines)

    def test_long_rows(self):
        told = {}
        for seed in range(25):
            dice = Dice(seed)
            session, slow = Session(), SlowSession()
            for _ in range(40):
                text = self.some_text(dice)
                found = session.run(text)
                self.assertEqual(found, slow.run(text))
                self.assertEqual(told_bench(session.bench), told_bench(slow.bench))
                told.update((self.kind_of(line), True) for line in found)
            self.assertEqual(history(session.bench), history(slow.bench))
        expected = {"ok", "unknown name", "unknown number", "name in use", "invalid contact", "invalid question",
                    "nothing to", "invalid board", "invalid command"}
        self.assertLessEqual(expected, set(told))

    def kind_of(self, line):
        if not line.startswith("line "):
            return line
        words = line.split(": ")[1].split(" ")
        return "name in use" if words[0] == "name" else " ".join(words[:2])


if __name__ == "__main__":
    unittest.main()
