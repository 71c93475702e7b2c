import inspect
import unittest

from leverhouse.bench import Workbench
from leverhouse.errors import (
    InvalidBoard,
    InvalidQuestion,
    LeverhouseError,
    NameInUse,
    NothingToRedo,
    NothingToUndo,
    UnknownName,
    UnknownNumber,
)
from tests.benches import (
    DARK,
    FOLLOWED,
    HASTY,
    LAMP,
    NO_BOARD,
    TWO_SWITCHES,
    WIRE,
    BenchTest,
    changes_of_all_kinds,
    do,
    filled_bench,
)
from tests.samples import board_like, parts_of, small_contact
from tests.slow_bench import history, told_bench


class TestBoards(BenchTest):
    def test_an_empty_workbench(self):
        bench = Workbench()
        self.assertEqual((bench.board_names(), bench.question_names(), bench.answers()), ([], [], []))
        self.check_counts(bench, 0, 0)
        for ask in (bench.board, bench.question, bench.answer):
            with self.fails(UnknownName, "b"):
                ask("b")

    def test_workbenches_are_apart(self):
        one, other = Workbench(), Workbench()
        one.set_board("b", LAMP)
        self.assertEqual((one.board_names(), other.board_names()), (["b"], []))
        with self.fails(NothingToUndo):
            other.undo()

    def test_set_board(self):
        bench = Workbench()
        self.assertIsNone(bench.set_board("b", LAMP))
        self.assertEqual(parts_of(bench.board("b")), parts_of(LAMP))
        bench.set_board("c", FOLLOWED)
        bench.set_board("b", DARK)
        self.assertEqual(bench.board_names(), ["b", "c"])
        self.assertEqual(parts_of(bench.board("b")), parts_of(DARK))
        self.assertEqual(parts_of(bench.board("c")), parts_of(FOLLOWED))

    def test_a_board_under_several_names(self):
        bench = Workbench()
        bench.set_board("b", LAMP)
        bench.set_board("c", LAMP)
        bench.remove_contact("b", 0)
        self.assertEqual(parts_of(bench.board("b")), parts_of(DARK))
        self.assertEqual(parts_of(bench.board("c")), parts_of(LAMP))

    def test_names_ascend(self):
        bench = Workbench()
        for name in ("z", "a", "a10", "a9", "9", "b", "10"):
            bench.set_board(name, LAMP)
            bench.ask(name + "q", word="settles", boards=[name])
        names = ["10", "9", "a", "a10", "a9", "b", "z"]
        self.assertEqual(bench.board_names(), names)
        self.assertEqual(bench.question_names(), ["10q", "9q", "a10q", "a9q", "aq", "bq", "zq"])
        self.assertEqual([name for name, _ in bench.answers()], bench.question_names())

    def test_lists_are_new(self):
        bench = filled_bench()
        before = told_bench(bench)
        for ask in (bench.board_names, bench.question_names, bench.answers):
            ask().clear()
        self.assertEqual(told_bench(bench), before)
        self.assertEqual(len(bench.answers()), 2)

    def test_remove_board(self):
        bench = filled_bench()
        self.assertIsNone(bench.remove_board("dark"))
        self.assertEqual(bench.board_names(), ["b", "buzzer", "lamp"])
        with self.fails(UnknownName, "dark"):
            bench.board("dark")
        with self.fails(UnknownName, "dark"):
            bench.remove_board("dark")

    def test_remove_board_in_use(self):
        bench = filled_bench()
        before = history(bench)
        for name in ("b", "lamp"):
            with self.fails(NameInUse, name):
                bench.remove_board(name)
        # Names of nothing, and of a question alone.
        for name in ("same", "", "x"):
            with self.fails(UnknownName, name):
                bench.remove_board(name)
        self.assertEqual(history(bench), before)

    def test_a_board_is_in_use_as_long_as_a_question_names_it(self):
        bench = filled_bench()
        bench.drop("same")
        bench.remove_board("lamp")
        with self.fails(NameInUse, "b"):
            bench.remove_board("b")
        bench.ask("b", word="races", boards=["dark"])
        # A question has this name, but none is about the board.
        bench.remove_board("b")
        self.assertEqual((bench.board_names(), bench.question_names()), (["buzzer", "dark"], ["b"]))
        bench.undo()
        bench.undo()
        with self.fails(NameInUse, "b"):
            bench.remove_board("b")

    def test_contacts(self):
        bench = Workbench()
        bench.set_board("b", FOLLOWED)
        self.assertIsNone(bench.replace_contact("b", 1, WIRE))
        self.assertEqual(bench.board("b").contacts, (small_contact("pas"), WIRE))
        self.assertIsNone(bench.insert_contact("b", 0, small_contact("bar")))
        self.assertIsNone(bench.insert_contact("b", 3, small_contact("pb!r>")))
        self.assertEqual(bench.board("b").contacts, tuple(map(small_contact, ["bar", "pas", "pa-", "pb!r>"])))
        self.assertIsNone(bench.remove_contact("b", 1))
        self.assertEqual(bench.board("b").contacts, tuple(map(small_contact, ["bar", "pa-", "pb!r>"])))
        self.assertEqual(parts_of(bench.board("b"))[:4], parts_of(FOLLOWED)[:4])

    def test_a_contact_that_is_passed_may_change_later(self):
        bench = Workbench()
        bench.set_board("b", LAMP)
        contact = list(WIRE)
        bench.insert_contact("b", 1, contact)
        contact[0] = "m"
        self.assertEqual(bench.board("b").contacts, (small_contact("pas"), WIRE))

    def test_errors_of_contacts(self):
        bench = filled_bench()
        bench.set_board("full", board_like(LAMP, contacts=[WIRE] * 40))
        before = history(bench)
        # The name comes first, then the number, then the contact.
        for contact in (WIRE, NO_BOARD):
            for number in (-1, 0, 9):
                for name in ("none", "same", ""):
                    with self.fails(UnknownName, name):
                        bench.replace_contact(name, number, contact)
                    with self.fails(UnknownName, name):
                        bench.insert_contact(name, number, contact)
                    with self.fails(UnknownName, name):
                        bench.remove_contact(name, number)
            for number in (-1, 2, 3):
                with self.fails(UnknownNumber, number):
                    bench.replace_contact("b", number, contact)
                with self.fails(UnknownNumber, number):
                    bench.remove_contact("b", number)
            for number in (-1, 3, 4):
                with self.fails(UnknownNumber, number):
                    bench.insert_contact("b", number, contact)
        for contact in (NO_BOARD, ("a", "z", "s", "make", "both"), ("a", "b", "q", "make", "both")):
            with self.fails(InvalidBoard):
                bench.replace_contact("b", 1, contact)
            with self.fails(InvalidBoard):
                bench.insert_contact("b", 2, contact)
        with self.fails(InvalidBoard):
            bench.insert_contact("full", 40, WIRE)
        with self.fails(UnknownNumber, 41):
            bench.insert_contact("full", 41, WIRE)
        self.assertEqual(history(bench), before)


class TestQuestions(BenchTest):
    def test_ask(self):
        bench = filled_bench()
        self.assertIsNone(bench.ask("q", word="changes", boards=["dark", "lamp"], hurry=3))
        self.assertEqual(bench.question("q"), ("changes", ("dark", "lamp"), 3))
        self.assertIs(type(bench.question("q")[1]), tuple)
        self.assertEqual(bench.question("b"), ("settles", ("b",), 0))
        self.assertEqual(bench.question_names(), ["b", "q", "same"])
        bench.ask("q", word="races", boards=("buzzer",))
        self.assertEqual(bench.question("q"), ("races", ("buzzer",), 0))
        self.assertEqual(inspect.signature(bench.ask).parameters["hurry"].default, 0)

    def test_the_list_may_change_later(self):
        bench = filled_bench()
        boards, more = ["dark", "lamp"], ["lamp"]
        bench.ask("q", word="agrees", boards=boards)
        bench.change_all([("ask", "p", "settles", more, 0)])
        boards[0] = "b"
        more.append("b")
        self.assertEqual(bench.question("q"), ("agrees", ("dark", "lamp"), 0))
        self.assertEqual(bench.question("p"), ("settles", ("lamp",), 0))

    def test_the_list_stays_as_it_is(self):
        bench = filled_bench()
        boards = ["dark", "lamp"]
        bench.ask("q", word="agrees", boards=boards)
        bench.answer("q")
        self.assertEqual(boards, ["dark", "lamp"])

    def test_a_board_and_a_question_of_one_name(self):
        bench = filled_bench()
        self.assertEqual(bench.question("b"), ("settles", ("b",), 0))
        self.assertEqual(parts_of(bench.board("b")), parts_of(FOLLOWED))
        bench.drop("b")
        self.assertEqual(parts_of(bench.board("b")), parts_of(FOLLOWED))
        with self.fails(UnknownName, "b"):
            bench.question("b")

    def test_the_same_board_twice(self):
        bench = filled_bench()
        bench.ask("q", word="agrees", boards=["lamp", "lamp"])
        bench.ask("p", word="changes", boards=["buzzer", "buzzer"])
        self.assertEqual((bench.answer("q"), bench.answer("p")), (("agrees",), ("unsettled", "one", 0, 2)))
        with self.fails(NameInUse, "buzzer"):
            bench.remove_board("buzzer")

    def test_boards_of_different_faces(self):
        bench = filled_bench()
        bench.set_board("two", TWO_SWITCHES)
        bench.ask("q", word="agrees", boards=["lamp", "two"])
        bench.ask("p", word="changes", boards=["two", "lamp"])
        self.assertEqual((bench.answer("q"), bench.answer("p")), (("faces",), ("faces",)))

    def test_a_question_is_about_what_is_defined_when_it_is_answered(self):
        bench = Workbench()
        bench.set_board("b", LAMP)
        bench.ask("q", word="settles", boards=["b"])
        self.assertEqual(bench.answer("q"), ("settles", 0))
        bench.set_board("b", FOLLOWED)
        self.assertEqual(bench.answer("q"), ("settles", 1))
        bench.insert_contact("b", 0, small_contact("pa!r"))
        self.assertEqual(bench.answer("q"), ("buzzes", 0, 2))
        bench.undo()
        self.assertEqual(bench.answer("q"), ("settles", 1))

    def test_errors_of_ask(self):
        bench = filled_bench()
        before = history(bench)
        # The word comes first, then the number of boards, then their names.
        for word in ("settle", "", "Settles", "b", "agree", "parts", "settles "):
            for boards in ([], ["b"], ["none"], ["b", "lamp"], ["b", "none", "b"]):
                with self.fails(UnknownName, word):
                    bench.ask("q", word=word, boards=boards)
        for word, count in (("settles", 1), ("races", 1), ("agrees", 2), ("changes", 2)):
            for boards in ([], ["b"], ["none"], ["b", "lamp"], ["none", "b"], ["b"] * 3):
                if len(boards) != count:
                    with self.fails(InvalidQuestion):
                        bench.ask("q", word=word, boards=boards, hurry=1)
        for word, boards, name in (
            ("settles", ["none"], "none"),
            ("races", ["same"], "same"),
            ("agrees", ["lamp", "x"], "x"),
            ("changes", ["y", "x"], "y"),
            ("agrees", ["", "lamp"], ""),
        ):
            with self.fails(UnknownName, name):
                bench.ask("q", word=word, boards=boards)
        self.assertEqual(history(bench), before)

    def test_drop(self):
        bench = filled_bench()
        self.assertIsNone(bench.drop("same"))
        self.assertEqual(bench.question_names(), ["b"])
        before = history(bench)
        for name in ("same", "lamp", "none"):
            for ask in (bench.drop, bench.question, bench.answer):
                with self.fails(UnknownName, name):
                    ask(name)
        self.assertEqual(history(bench), before)
        self.check_counts(bench, 0, 0)


class TestUndo(BenchTest):
    def test_each_kind_of_change(self):
        for parts in changes_of_all_kinds():
            with self.subTest(parts=parts[:2]):
                bench = filled_bench()
                before = told_bench(bench)
                do(bench, parts)
                after = told_bench(bench)
                self.assertIsNone(bench.undo())
                self.assertEqual(told_bench(bench), before)
                self.assertIsNone(bench.redo())
                self.assertEqual(told_bench(bench), after)

    def test_several_in_a_row(self):
        bench = filled_bench()
        rows = [told_bench(bench)]
        for parts in changes_of_all_kinds():
            do(bench, parts)
            rows.append(told_bench(bench))
        for row in rows[-2::-1]:
            bench.undo()
            self.assertEqual(told_bench(bench), row)
        for row in rows[1:]:
            bench.redo()
            self.assertEqual(told_bench(bench), row)
        with self.fails(NothingToRedo):
            bench.redo()

    def test_back_to_the_empty_workbench(self):
        bench = filled_bench()
        before = told_bench(bench)
        for _ in range(6):
            bench.undo()
        self.assertEqual(told_bench(bench), ([], []))
        for _ in range(3):
            with self.fails(NothingToUndo):
                bench.undo()
        self.assertEqual(told_bench(bench), ([], []))
        for _ in range(6):
            bench.redo()
        self.assertEqual(told_bench(bench), before)

    def test_nothing_to_redo(self):
        bench = Workbench()
        with self.fails(NothingToRedo):
            bench.redo()
        bench = filled_bench()
        before = history(bench)
        for _ in range(3):
            with self.fails(NothingToRedo):
                bench.redo()
        self.assertEqual(history(bench), before)

    def test_a_change_forgets_what_was_taken_back(self):
        for parts in changes_of_all_kinds():
            bench = filled_bench()
            bench.set_board("lamp", DARK)
            bench.set_board("lamp", HASTY)
            bench.undo()
            bench.undo()
            do(bench, parts)
            after = told_bench(bench)
            with self.fails(NothingToRedo):
                bench.redo()
            self.assertEqual(told_bench(bench), after)
            bench.undo()
            self.assertEqual(told_bench(bench), told_bench(filled_bench()))

    def test_replacing_by_the_same_is_a_change(self):
        bench = Workbench()
        bench.set_board("b", LAMP)
        bench.ask("q", word="settles", boards=["b"])
        rows = [
            lambda: bench.set_board("b", LAMP),
            lambda: bench.set_board("b", bench.board("b")),
            lambda: bench.replace_contact("b", 0, LAMP.contacts[0]),
            lambda: bench.ask("q", word="settles", boards=["b"]),
        ]
        before = told_bench(bench)
        for action in rows:
            bench.set_board("c", DARK)
            bench.undo()
            action()
            with self.fails(NothingToRedo):
                bench.redo()
            self.assertEqual(told_bench(bench), before)
        self.assertEqual(history(bench)[1], 2 + len(rows))

    def test_a_change_that_fails_leaves_what_can_be_redone(self):
        bench = filled_bench()
        bench.remove_board("dark")
        bench.drop("same")
        bench.undo()
        bench.undo()
        before = history(bench)
        self.assertEqual((len(before[0]), before[1]), (9, 6))
        for parts in (
            ("remove_board", "none"),
            ("remove_board", "b"),
            ("replace_contact", "b", 2, WIRE),
            ("insert_contact", "b", 1, NO_BOARD),
            ("remove_contact", "dark", 0),
            ("ask", "q", "settle", ["b"], 0),
            ("ask", "same", "agrees", ["b"], 0),
            ("ask", "b", "settles", ["none"], 0),
            ("drop", "none"),
        ):
            with self.assertRaises(LeverhouseError):
                do(bench, parts)
            self.assertEqual(history(bench), before)
        bench.redo()
        bench.redo()
        self.assertEqual((bench.board_names(), bench.question_names()), (["b", "buzzer", "lamp"], ["b"]))

    def test_questions_and_answers_are_no_changes(self):
        bench = filled_bench()
        bench.remove_board("dark")
        bench.undo()
        before = history(bench)
        bench.answers()
        bench.answer("b")
        bench.board("b")
        bench.question("b")
        bench.board_names()
        bench.question_names()
        self.assertEqual(history(bench), before)
        bench.redo()
        self.assertEqual(bench.board_names(), ["b", "buzzer", "lamp"])

    def test_undo_and_redo_are_no_changes(self):
        bench = filled_bench()
        bench.set_board("b", DARK)
        before = history(bench)
        for _ in range(3):
            bench.undo()
            bench.undo()
            bench.redo()
            bench.redo()
        self.assertEqual(history(bench), before)

    def test_a_change_behind_undo_is_the_last_one(self):
        bench = Workbench()
        bench.set_board("b", LAMP)
        bench.set_board("b", DARK)
        bench.undo()
        bench.set_board("b", FOLLOWED)
        bench.undo()
        self.assertEqual(parts_of(bench.board("b")), parts_of(LAMP))
        bench.redo()
        self.assertEqual(parts_of(bench.board("b")), parts_of(FOLLOWED))


class TestChangeAll(BenchTest):
    def test_all_succeed(self):
        bench, apart = filled_bench(), filled_bench()
        changes = changes_of_all_kinds()
        self.assertIsNone(bench.change_all(changes))
        self.assertEqual(changes, changes_of_all_kinds())
        for parts in changes:
            do(apart, parts)
        # Each of them is undone by itself.
        self.assertEqual(history(bench), history(apart))
        self.assertEqual(history(bench)[1], 6 + len(changes))

    def test_each_kind(self):
        for parts in changes_of_all_kinds():
            bench, apart = filled_bench(), filled_bench()
            bench.change_all([parts])
            do(apart, parts)
            self.assertEqual(history(bench), history(apart))

    def test_later_changes_use_the_earlier_ones(self):
        bench = Workbench()
        bench.change_all([
            ("set_board", "b", DARK),
            ("insert_contact", "b", 0, WIRE),
            ("replace_contact", "b", 0, small_contact("pas")),
            ("set_board", "c", FOLLOWED),
            ("ask", "q", "agrees", ["b", "c"], 0),
        ])
        self.assertEqual(bench.answers(), [("q", ("agrees",))])
        bench.change_all([("drop", "q"), ("remove_board", "c"), ("remove_contact", "b", 0)])
        self.assertEqual(told_bench(bench), ([("b", parts_of(DARK))], []))

    def test_one_fails(self):
        right = changes_of_all_kinds()
        for wrong, error, fields in (
            (("replace_contact", "none", 0, WIRE), UnknownName, ("none",)),
            (("replace_contact", "buzzer", 1, WIRE), UnknownNumber, (1,)),
            (("insert_contact", "buzzer", 2, WIRE), UnknownNumber, (2,)),
            (("insert_contact", "buzzer", 0, NO_BOARD), InvalidBoard, ()),
            (("remove_contact", "buzzer", -1), UnknownNumber, (-1,)),
            (("remove_board", "lamp"), NameInUse, ("lamp",)),
            (("remove_board", "none"), UnknownName, ("none",)),
            (("ask", "q", "settle", ["b"], 0), UnknownName, ("settle",)),
            (("ask", "q", "settles", ["b", "b"], 0), InvalidQuestion, ()),
            (("ask", "q", "races", ["none"], 0), UnknownName, ("none",)),
            (("drop", "none"), UnknownName, ("none",)),
        ):
            for at in (0, 1, 5, len(right)):
                bench = filled_bench()
                before = history(bench)
                # From the sixth on, there is no board of this name.
                changes = [parts for parts in right if parts != ("remove_board", "buzzer")]
                with self.fails(error, *fields):
                    bench.change_all([*changes[:at], wrong, *changes[at:]])
                self.assertEqual(history(bench), before)

    def test_what_can_be_redone_stays(self):
        for at in (0, 1, 3):
            bench = filled_bench()
            bench.set_board("lamp", DARK)
            bench.drop("b")
            bench.undo()
            bench.undo()
            before = history(bench)
            changes = changes_of_all_kinds()[:3]
            with self.fails(UnknownName, "none"):
                bench.change_all([*changes[:at], ("drop", "none"), *changes[at:]])
            self.assertEqual(history(bench), before)
            bench.redo()
            bench.redo()
            self.assertEqual(bench.question_names(), ["same"])
            # And again, at its end.
            with self.fails(UnknownName, "none"):
                bench.change_all([*changes[:at], ("drop", "none")])
            with self.fails(NothingToRedo):
                bench.redo()
            bench.undo()
            bench.undo()
            self.assertEqual(history(bench), before)

    def test_a_success_forgets_what_was_taken_back(self):
        bench = filled_bench()
        bench.drop("b")
        bench.undo()
        bench.change_all([("set_board", "c", LAMP)])
        with self.fails(NothingToRedo):
            bench.redo()

    def test_the_error_of_the_first_that_fails(self):
        bench = filled_bench()
        with self.fails(UnknownName, "x"):
            bench.change_all([("set_board", "c", LAMP), ("drop", "x"), ("drop", "y")])

    def test_the_empty_list(self):
        bench = filled_bench()
        bench.drop("b")
        bench.undo()
        before = history(bench)
        self.assertIsNone(bench.change_all([]))
        self.assertEqual(history(bench), before)
        bench.redo()
        self.assertEqual(bench.question_names(), ["same"])
        empty = Workbench()
        empty.change_all([])
        with self.fails(NothingToUndo):
            empty.undo()

    def test_a_failure_on_an_empty_workbench(self):
        bench = Workbench()
        with self.fails(UnknownName, "c"):
            bench.change_all([("set_board", "b", LAMP), ("ask", "q", "settles", ["b"], 0), ("remove_board", "c")])
        self.assertEqual(told_bench(bench), ([], []))
        with self.fails(NothingToUndo):
            bench.undo()
        with self.fails(NothingToRedo):
            bench.redo()


if __name__ == "__main__":
    unittest.main()
