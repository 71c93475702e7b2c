import unittest

from leverhouse.agree import agree
from leverhouse.bench import Workbench, decide
from leverhouse.changes import change
from leverhouse.errors import (
    InvalidBoard,
    InvalidQuestion,
    LeverhouseError,
    NameInUse,
    NothingToRedo,
    NothingToUndo,
    UnknownName,
    UnknownNumber,
)
from leverhouse.races import race
from leverhouse.settling import Round, settles
from tests.benches import (
    BUZZER,
    DARK,
    FOLLOWED,
    HASTY,
    HOLDING,
    LAMP,
    LATE,
    NO_BOARD,
    RENAMED,
    TRAP,
    TWO_SWITCHES,
    WIRE,
    BenchTest,
    changes_of_all_kinds,
    do,
    filled_bench,
    told_error,
    wide_board,
)
from tests.checks import check_defaults, told
from tests.samples import (
    Dice,
    board_like,
    busy_board,
    deep_board,
    odd_board,
    parts_of,
    small_board,
    small_contact,
    twin_of,
)
from tests.slow_bench import SlowBench, told_bench, told_now


class TestCounts(BenchTest):
    def test_the_same_question_again(self):
        bench = filled_bench()
        self.check_counts(bench, 0, 0)
        self.assertEqual(bench.answer("b"), ("settles", 1))
        self.check_counts(bench, 1, 0)
        for times in (1, 2, 3):
            self.assertEqual(bench.answer("b"), ("settles", 1))
            self.check_counts(bench, 1, times)

    def test_answers(self):
        bench = filled_bench()
        expected = [("b", ("settles", 1)), ("same", ("agrees",))]
        self.assertEqual(bench.answers(), expected)
        self.check_counts(bench, 2, 0)
        self.assertEqual(bench.answers(), expected)
        self.check_counts(bench, 2, 2)
        # Two questions of one word, boards and hurry: each is asked for by itself.
        bench.ask("c", word="settles", boards=["b"])
        bench.answers()
        self.check_counts(bench, 2, 5)

    def test_two_questions_of_the_same(self):
        bench = filled_bench()
        bench.ask("one", word="agrees", boards=["lamp", "dark"])
        bench.ask("two", word="agrees", boards=["lamp", "dark"])
        bench.answer("one")
        self.assertEqual(bench.answer("two"), ("parts", 1, 1))
        self.check_counts(bench, 1, 1)

    def test_questions_that_are_not_the_same(self):
        bench = filled_bench()
        bench.ask("one", word="agrees", boards=["lamp", "dark"])
        bench.answer("one")
        bench.set_board("also", LAMP)
        others = [
            ("agrees", ["dark", "lamp"], 0),
            ("changes", ["lamp", "dark"], 0),
            ("agrees", ["lamp", "dark"], 1),
            ("agrees", ["also", "dark"], 0),
            ("agrees", ["lamp", "lamp"], 0),
            ("races", ["lamp"], 0),
            ("settles", ["lamp"], 0),
            ("settles", ["dark"], 0),
        ]
        for at, (word, boards, hurry) in enumerate(others):
            bench.ask("other", word=word, boards=boards, hurry=hurry)
            bench.answer("other")
            self.check_counts(bench, 2 + at, 0)

    def test_a_board_that_is_defined_again_as_it_was(self):
        bench = filled_bench()
        bench.answer("b")
        for at, again in enumerate([
            lambda: bench.set_board("b", FOLLOWED),
            lambda: bench.set_board("b", bench.board("b")),
            lambda: bench.replace_contact("b", 0, FOLLOWED.contacts[0]),
            lambda: bench.change_all([("set_board", "b", FOLLOWED)]),
        ]):
            again()
            self.assertEqual(bench.answer("b"), ("settles", 1))
            self.check_counts(bench, 2 + at, 0)
        # The entry that was there first is brought back.
        for _ in range(4):
            bench.undo()
        bench.answer("b")
        self.check_counts(bench, 5, 1)
        for times in (2, 3, 4, 5):
            bench.redo()
            bench.answer("b")
            self.check_counts(bench, 5, times)

    def test_a_contact_there_and_back(self):
        bench = filled_bench()
        bench.answer("b")
        bench.remove_contact("b", 0)
        bench.insert_contact("b", 0, FOLLOWED.contacts[0])
        bench.answer("b")
        self.check_counts(bench, 2, 0)

    def test_a_board_that_was_removed(self):
        bench = Workbench()
        bench.set_board("b", LAMP)
        bench.ask("q", word="settles", boards=["b"])
        bench.answer("q")
        bench.drop("q")
        bench.remove_board("b")
        bench.undo()
        bench.undo()
        bench.answer("q")
        self.check_counts(bench, 1, 1)
        bench.redo()
        bench.redo()
        bench.set_board("b", LAMP)
        bench.ask("q", word="settles", boards=["b"])
        bench.answer("q")
        self.check_counts(bench, 2, 1)

    def test_a_question_that_is_asked_again(self):
        bench = filled_bench()
        bench.answer("b")
        bench.ask("b", word="settles", boards=["b"])
        bench.answer("b")
        bench.drop("b")
        bench.ask("new", word="settles", boards=["b"], hurry=0)
        bench.answer("new")
        self.check_counts(bench, 1, 2)

    def test_answers_are_kept_whatever_is_undone(self):
        bench = Workbench()
        bench.set_board("b", LAMP)
        bench.ask("q", word="settles", boards=["b"])
        bench.set_board("b", FOLLOWED)
        bench.answer("q")
        bench.undo()
        bench.answer("q")
        self.check_counts(bench, 2, 0)
        bench.redo()
        bench.answer("q")
        bench.undo()
        bench.answer("q")
        self.check_counts(bench, 2, 2)

    def test_change_all_that_fails(self):
        bench = filled_bench()
        bench.answer("b")
        with self.fails(UnknownName, "none"):
            bench.change_all([("set_board", "b", LAMP), ("drop", "none")])
        bench.answer("b")
        self.check_counts(bench, 1, 1)
        # The entries of a call that failed are not those of later ones.
        bench.set_board("b", LAMP)
        self.assertEqual(bench.answer("b"), ("settles", 0))
        self.check_counts(bench, 2, 1)

    def test_answers_without_a_result_are_kept(self):
        bench = Workbench()
        bench.set_board("wide", wide_board(6, 6))
        bench.set_board("lamp", LAMP)
        bench.ask("many", word="settles", boards=["wide"], hurry=8)
        bench.ask("faces", word="agrees", boards=["wide", "lamp"], hurry=8)
        expected = [("faces", ("faces",)), ("many", ("many", 3000))]
        self.assertEqual(bench.answers(), expected)
        self.check_counts(bench, 2, 0)
        self.assertEqual(bench.answers(), expected)
        self.check_counts(bench, 2, 2)

    def test_names_that_are_unknown_count_nothing(self):
        bench = filled_bench()
        bench.answer("b")
        with self.fails(UnknownName, "none"):
            bench.answer("none")
        self.check_counts(bench, 1, 0)
        bench.question("b")
        self.check_counts(bench, 1, 0)

    def test_changes_count_nothing(self):
        bench = filled_bench()
        bench.answers()
        bench.change_all(changes_of_all_kinds())
        bench.undo()
        bench.redo()
        self.check_counts(bench, 2, 0)


class TestAnswers(BenchTest):
    def check(self, word, boards, expected, hurry=0):
        """Both ways to the answer."""
        self.assertEqual(decide(word, boards, hurry=hurry), expected)
        bench = Workbench()
        names = []
        for board in boards:
            names.append(f"b{len(names)}")
            bench.set_board(names[-1], board)
        bench.ask("q", word=word, boards=names, hurry=hurry)
        answer = bench.answer("q")
        self.assertEqual((answer, type(answer)), (expected, tuple))

    def test_settles(self):
        self.check("settles", [LAMP], ("settles", 0))
        self.check("settles", [FOLLOWED], ("settles", 1))
        self.check("settles", [wide_board(6, 6)], ("settles", 1))
        self.check("settles", [wide_board(6, 5)], ("settles", 5), hurry=8)
        self.check("settles", [BUZZER], ("buzzes", 0, 2))
        self.check("settles", [LATE], ("buzzes", 1, 2))
        # Three relays chase each other.
        chased = small_board("abc", "s", ["qa", "rb", "tc"], ["xa"], ["pat", "pb!q", "pc!r", "pas"])
        self.check("settles", [chased], ("buzzes", 0, 6))

    def test_races(self):
        self.check("races", [FOLLOWED], ("determinate",))
        self.check("races", [HASTY], ("determinate",))
        self.check("races", [HASTY], ("races", 3, 2), hurry=1)
        self.check("races", [LATE], ("buzzes", 1, 2))

    def test_agrees(self):
        self.check("agrees", [LAMP, FOLLOWED], ("agrees",))
        self.check("agrees", [HASTY, RENAMED], ("agrees",))
        self.check("agrees", [LAMP, LATE], ("unsettled", "other", 1, 2))
        self.check("agrees", [LATE, BUZZER], ("unsettled", "one", 1, 2))
        self.check("agrees", [HASTY, FOLLOWED], ("parts", 3, 4))
        self.check("agrees", [FOLLOWED, HASTY], ("parts", 4, 3))
        self.check("agrees", [LAMP, TWO_SWITCHES], ("faces",))

    def test_changes(self):
        self.check("changes", [LAMP, FOLLOWED], ("unseen",))
        self.check("changes", [LATE, LAMP], ("unsettled", "one", 1, 2))
        self.check("changes", [LAMP, LATE], ("round", 0, 1, 2))
        self.check("changes", [HOLDING, TRAP], ("round", 2, 1, 2))
        self.check("changes", [HASTY, RENAMED], ("seen", 3, 0, 0))
        self.check("changes", [HASTY, FOLLOWED], ("seen", 0, 3, 4))
        self.check("changes", [TWO_SWITCHES, LAMP], ("faces",))

    def test_a_play_without_moves_and_one_with_many(self):
        bright = small_board("a", "s", [], ["xa"], ["pa-"])
        self.check("agrees", [bright, DARK], ("parts", 0, 0))
        self.check("changes", [bright, DARK], ("seen", 0, 0, 0))

    def test_the_limit(self):
        # 2048 states, and 4096.
        self.check("settles", [wide_board(6, 5)], ("settles", 5), hurry=8)
        self.check("settles", [wide_board(6, 6)], ("many", 3000), hurry=8)
        for word in ("races", "agrees", "changes"):
            boards = [wide_board(6, 6)] * (1 if word == "races" else 2)
            self.check(word, boards, ("many", 3000), hurry=8)
        # 2048 states, but more pairs.
        self.check("races", [wide_board(6, 5)], ("many", 3000), hurry=8)

    def test_many_comes_before_what_is_found(self):
        board = board_like(wide_board(6, 6), contacts=[small_contact("pa!0"), *wide_board(6, 6).contacts[1:]])
        self.check("settles", [board], ("many", 3000), hurry=8)

    def test_faces_come_before_many(self):
        self.check("agrees", [wide_board(6, 6), LAMP], ("faces",), hurry=8)
        self.check("changes", [LAMP, wide_board(6, 6)], ("faces",), hurry=8)

    def test_decide_with_other_limits(self):
        check_defaults(self, decide)
        for word, boards, count, expected in (
            ("settles", [HASTY], 4, ("settles", 1)),
            ("settles", [LATE], 3, ("buzzes", 1, 2)),
            ("races", [HASTY], 6, ("determinate",)),
            ("races", [BUZZER], 4, ("buzzes", 0, 2)),
            ("agrees", [LAMP, DARK], 2, ("parts", 1, 1)),
            ("agrees", [HASTY, FOLLOWED], 7, ("parts", 3, 4)),
            ("changes", [LAMP, DARK], 2, ("seen", 0, 1, 1)),
            ("changes", [HASTY, RENAMED], 7, ("seen", 3, 0, 0)),
        ):
            for limit in (1, count - 1):
                self.assertEqual(decide(word, boards, limit=limit), ("many", limit))
            for limit in (count, count + 1, 5000):
                self.assertEqual(decide(word, boards, limit=limit), expected)
        self.assertEqual(decide("settles", [wide_board(6, 6)], hurry=8, limit=4096), ("settles", 6))
        self.assertEqual(decide("agrees", [LAMP, TWO_SWITCHES], limit=1), ("faces",))

    def test_decide_changes_nothing(self):
        boards = [LAMP, DARK]
        decide("agrees", boards)
        self.assertEqual([parts_of(board) for board in boards], [parts_of(LAMP), parts_of(DARK)])
        # A tuple of boards will do as well.
        self.assertEqual(decide("agrees", (LAMP, DARK)), ("parts", 1, 1))

    def test_on_many_boards(self):
        kinds = {}
        for seed in range(60):
            odd, busy, deep = odd_board(seed, 2, 2, 7), busy_board(seed, 2, 2), deep_board(seed, 1, 1)
            twins = [(odd, twin_of(odd, seed)), (deep, twin_of(deep, seed)), (busy, busy_board(seed + 1, 2, 2))]
            for board, twin in twins:
                hurry = seed % 3
                for word, boards, expected in (
                    ("settles", [board], told_settling(settles(board, hurry=hurry))),
                    ("races", [board], told_race(race(board, hurry=hurry))),
                    ("agrees", [board, twin], told_agreement(agree(board, twin, hurry=hurry))),
                    ("changes", [board, twin], told_change(change(board, twin, hurry=hurry))),
                ):
                    answer = decide(word, boards, hurry=hurry)
                    self.assertEqual(answer, expected)
                    kinds[word, answer[0]] = True
        self.assertEqual(len(kinds), 2 + 3 + 3 + 4)


def told_settling(found):
    if isinstance(found, Round):
        return ("buzzes", len(found.play), len(found.moves))
    return ("settles", found.count)


def lengths(fields):
    return tuple(field if isinstance(field, str) else len(field) for field in fields)


def told_race(found):
    if found is None:
        return ("determinate",)
    which, *rest = told(found)
    if which == "one":
        return ("buzzes", *lengths(rest))
    return ("races", len(found.first), len(found.second))


def told_agreement(found):
    if found is None:
        return ("agrees",)
    fields = told(found)
    if isinstance(fields[0], str):
        return ("unsettled", *lengths(fields))
    return ("parts", *lengths(fields[:2]))


def told_change(found):
    if found is None:
        return ("unseen",)
    fields = told(found)
    if isinstance(fields[0], str):
        return ("unsettled", *lengths(fields))
    if len(fields) == 3:
        return ("round", *lengths(fields))
    return ("seen", *lengths(fields[:3]))


class TestByCopies(BenchTest):
    """Long rows of changes, on a workbench that keeps copies and on that of the program."""

    BOARDS = (LAMP, DARK, FOLLOWED, HASTY, BUZZER, TWO_SWITCHES)

    def some_change(self, dice):
        name = dice.pick(["a", "b", "c", "d"])
        kind = dice.pick(["set_board", "set_board", "ask", "ask", "remove_board", "drop", "replace_contact",
                          "insert_contact", "remove_contact"])
        if kind == "set_board":
            return (kind, name, dice.pick(self.BOARDS))
        if kind == "ask":
            word = dice.pick(["settles", "races", "agrees", "changes", "none"])
            count = 1 if word in ("settles", "races") else 2
            count += dice.pick([0, 0, 0, 0, 1])
            return (kind, name, word, [dice.pick(["a", "b", "c", "d"]) for _ in range(count)], dice.below(2))
        if kind in ("remove_board", "drop"):
            return (kind, name)
        if kind == "remove_contact":
            return (kind, name, dice.below(3))
        return (kind, name, dice.below(3), dice.pick([*LAMP.contacts, WIRE, small_contact("ap!s>"), NO_BOARD]))

    def outcome(self, action):
        try:
            return action()
        except LeverhouseError as error:
            return told_error(error)

    def check_step(self, dice, bench, slow):
        way = dice.below(10)
        if way < 4:
            parts = self.some_change(dice)
            rows = [lambda: do(bench, parts), lambda: slow.change(parts)]
        elif way < 6:
            changes = [self.some_change(dice) for _ in range(dice.below(4))]
            rows = [lambda: bench.change_all(changes), lambda: slow.change_all(changes)]
        elif way < 8:
            action = dice.pick(["undo", "redo"])
            rows = [getattr(bench, action), getattr(slow, action)]
        else:
            name = dice.pick(["a", "b", "c", "d"])
            rows = [lambda: bench.answer(name), lambda: slow.answer(name)]
        found, expected = map(self.outcome, rows)
        self.assertEqual(found, expected)
        self.assertEqual(told_bench(bench), told_now(slow))
        self.check_counts(bench, slow.decided, slow.kept)
        return found

    def test_long_rows(self):
        outcomes = {}
        decided = kept = 0
        for seed in range(30):
            dice = Dice(seed)
            bench, slow = Workbench(), SlowBench()
            for _ in range(250):
                found = self.check_step(dice, bench, slow)
                outcomes[found[0] if isinstance(found, tuple) else found] = True
            decided += bench.decided
            kept += bench.kept
            while slow.past:
                bench.undo()
                slow.undo()
                self.assertEqual(told_bench(bench), told_now(slow))
        errors = {UnknownName, UnknownNumber, InvalidBoard, InvalidQuestion, NameInUse, NothingToRedo, NothingToUndo}
        self.assertGreater(min(decided, kept), 100)
        self.assertLessEqual(errors | {None, "settles", "agrees", "unseen", "faces"}, set(outcomes))


if __name__ == "__main__":
    unittest.main()
