import types
import unittest

from leverhouse.boards import Board
from leverhouse.errors import InvalidNotation, InvalidPlay, InvalidState, UnknownName
from leverhouse.plays import (
    Outcome,
    can_move,
    check_state,
    due,
    first_state,
    is_rest,
    parse_play,
    play_text,
    run,
    show,
    step,
    switching_of,
    walk,
)
from tests import naive
from tests.samples import Dice, all_positions, busy_board, odd_board, parts_of, sized_board

# The switch s feeds the coils of q and r; q cuts the lamp x off, and r makes a short with t.
BOARD = Board(
    nodes=["p", "m", "a", "b", "n"],
    switches=["s", "t"],
    relays=[("q", "a", "m"), ("r", "m", "a")],
    lamps=[("x", "b", "m"), ("y", "a", "m")],
    contacts=[
        ("p", "a", "s", "make", "both"),
        ("a", "b", "q", "break", "both"),
        ("p", "n", "r", "make", "both"),
        ("n", "m", "t", "make", "both"),
    ],
)
SHORTED = Board(
    nodes=["p", "m", "a"],
    switches=["s"],
    relays=[("r", "a", "m")],
    lamps=[("x", "a", "m")],
    contacts=[("p", "m", "s", "break", "both"), ("p", "a", None, "make", "both")],
)
S, T = ("hand", "s"), ("hand", "t")
Q, R = ("relay", "q"), ("relay", "r")


def state_of(on, blown=False):
    """The state of BOARD in which the movers s, t, q, r of this string are on."""
    return (tuple(name in on for name in "stqr"), blown)


def many_boards():
    for seed in range(25):
        yield odd_board(seed)
        yield busy_board(seed)


class TestStates(unittest.TestCase):
    def test_check_state(self):
        for on in ("", "s", "t", "q", "r", "st", "sqr", "stq"):
            self.assertIsNone(check_state(BOARD, state_of(on)))
            self.assertIsNone(check_state(BOARD, state_of(on, True)))
        for on in ("tr", "str", "tqr", "stqr"):
            with self.subTest(on=on), self.assertRaises(InvalidState):
                check_state(BOARD, state_of(on))
            self.assertIsNone(check_state(BOARD, state_of(on, True)))

    def test_another_number_of_movers(self):
        for count in (0, 1, 2, 3, 5, 6, 14, 20):
            for on in (False, True):
                for blown in (False, True):
                    with self.subTest(count=count), self.assertRaises(InvalidState):
                        check_state(BOARD, ((on,) * count, blown))

    def test_a_board_without_movers(self):
        board = Board(nodes=["p", "m"], lamps=[("x", "p", "m")])
        self.assertIsNone(check_state(board, ((), False)))
        self.assertIsNone(check_state(board, ((), True)))
        self.assertEqual(first_state(board), ((), False))
        shorted = board.insert_contact(0, ("p", "m", None, "make", "both"))
        self.assertEqual(first_state(shorted), ((), True))
        self.assertIsNone(check_state(shorted, ((), True)))
        with self.assertRaises(InvalidState):
            check_state(shorted, ((), False))
        with self.assertRaises(InvalidState):
            check_state(board, ((False,), False))

    def test_check_state_on_many_boards(self):
        for board in many_boards():
            for movers in all_positions(board):
                self.assertIsNone(check_state(board, (movers, True)))
                if naive.short(board, movers):
                    with self.assertRaises(InvalidState):
                        check_state(board, (movers, False))
                else:
                    self.assertIsNone(check_state(board, (movers, False)))

    def test_first_state(self):
        self.assertEqual(first_state(BOARD), ((False,) * 4, False))
        self.assertEqual(first_state(SHORTED), ((False, False), True))
        self.assertEqual(first_state(sized_board(3, 6, 8, 1, 0)), ((False,) * 14, False))
        for board in many_boards():
            self.assertEqual(first_state(board), naive.first_state(board))


class TestDue(unittest.TestCase):
    def check(self, state, names):
        self.assertEqual(due(BOARD, state), names)
        self.assertIs(is_rest(BOARD, state), names == [])

    def test_relays_that_are_down(self):
        self.check(state_of(""), [])
        self.check(state_of("t"), [])
        self.check(state_of("s"), ["q", "r"])
        self.check(state_of("sq"), ["r"])
        self.check(state_of("sr"), ["q"])

    def test_relays_that_are_up(self):
        self.check(state_of("sqr"), [])
        self.check(state_of("qr"), ["q", "r"])
        self.check(state_of("q"), ["q"])
        self.check(state_of("r"), ["r"])

    def test_a_blown_fuse(self):
        self.check(state_of("", True), [])
        self.check(state_of("s", True), [])
        self.check(state_of("sq", True), ["q"])
        self.check(state_of("qr", True), ["q", "r"])
        self.check(state_of("sqr", True), ["q", "r"])
        self.check(state_of("stqr", True), ["q", "r"])

    def test_on_many_boards(self):
        for board in many_boards():
            for state in naive.states(board):
                names = naive.due(board, state)
                self.assertEqual(due(board, state), names)
                self.assertIs(is_rest(board, state), not names)


class TestMoves(unittest.TestCase):
    def test_hands(self):
        for hand in (S, T):
            for on, count in (("", 0), ("s", 2), ("sq", 1), ("qr", 2), ("sqr", 0)):
                for hurry in range(9):
                    made = can_move(BOARD, state_of(on), hand, hurry=hurry)
                    self.assertIs(made, count <= hurry)
                self.assertIs(can_move(BOARD, state_of(on), hand), count == 0)

    def test_hands_with_eight_relays_due(self):
        board = Board(
            nodes=["p", "m", "a"],
            switches=["s"],
            relays=[(f"r{k}", "a", "m") for k in range(8)],
            lamps=[("x", "a", "m")],
            contacts=[("p", "a", None, "make", "both")],
        )
        state = ((False,) * 9, False)
        self.assertEqual(len(due(board, state)), 8)
        for hurry in range(9):
            self.assertIs(can_move(board, state, S, hurry=hurry), hurry == 8)
            self.assertIs(can_move(board, state, ("relay", "r7"), hurry=hurry), True)

    def test_relays(self):
        for hurry in (0, 1, 8):
            for on, names in (("", ""), ("s", "qr"), ("sq", "r"), ("sqr", ""), ("q", "q")):
                for name in "qr":
                    made = can_move(BOARD, state_of(on), ("relay", name), hurry=hurry)
                    self.assertIs(made, name in names)

    def test_a_mover_of_the_other_kind(self):
        for on in ("", "s", "q", "sqr"):
            for move in (("relay", "s"), ("relay", "t"), ("hand", "q"), ("hand", "r")):
                self.assertIs(can_move(BOARD, state_of(on), move), False)
                self.assertIs(can_move(BOARD, state_of(on), move, hurry=8), False)

    def test_unknown_names(self):
        for name in ("x", "y", "p", "a", "z", "S", ""):
            for kind in ("hand", "relay"):
                for state in (state_of(""), state_of("s")):
                    with self.subTest(name=name), self.assertRaises(UnknownName) as caught:
                        can_move(BOARD, state, (kind, name))
                    self.assertEqual(caught.exception.name, name)
                    with self.subTest(name=name), self.assertRaises(UnknownName) as caught:
                        step(BOARD, state, (kind, name))
                    self.assertEqual(caught.exception.name, name)

    def test_step(self):
        self.assertEqual(step(BOARD, state_of(""), S), state_of("s"))
        self.assertEqual(step(BOARD, state_of("s"), S), state_of(""))
        self.assertEqual(step(BOARD, state_of("s"), Q), state_of("sq"))
        self.assertEqual(step(BOARD, state_of("sq"), Q), state_of("s"))
        self.assertEqual(step(BOARD, state_of("qr"), R), state_of("q"))

    def test_step_for_moves_that_cannot_be_made(self):
        self.assertEqual(step(BOARD, state_of("s"), S), state_of(""))
        self.assertEqual(step(BOARD, state_of("s"), T), state_of("st"))
        self.assertEqual(step(BOARD, state_of(""), Q), state_of("q"))
        self.assertEqual(step(BOARD, state_of("sqr"), R), state_of("sq"))
        self.assertEqual(step(BOARD, state_of("t"), R), state_of("tr", True))
        self.assertEqual(step(BOARD, state_of(""), ("relay", "s")), state_of("s"))
        self.assertEqual(step(BOARD, state_of("s"), ("hand", "q")), state_of("sq"))

    def test_the_fuse(self):
        self.assertEqual(step(BOARD, state_of("sqr"), T), state_of("stqr", True))
        self.assertEqual(step(BOARD, state_of("st"), R), state_of("str", True))
        self.assertEqual(step(BOARD, state_of("stqr", True), T), state_of("sqr", True))
        self.assertEqual(step(BOARD, state_of("stqr", True), R), state_of("stq", True))
        self.assertEqual(step(BOARD, state_of("", True), S), state_of("s", True))
        self.assertEqual(step(SHORTED, first_state(SHORTED), S), ((True, False), True))

    def test_on_many_boards(self):
        for board in many_boards():
            moves = [("hand", name) for name in board.switches]
            moves += [("relay", relay[0]) for relay in board.relays]
            for state in naive.states(board):
                for move in moves:
                    self.assertEqual(step(board, state, move), naive.step(board, state, move[1]))
                    for hurry in (0, 1, 2, 8):
                        made = move in naive.moves(board, state, hurry)
                        self.assertIs(can_move(board, state, move, hurry=hurry), made)


class TestShow(unittest.TestCase):
    def test_show(self):
        self.assertEqual(show(BOARD, state_of("")), ((), False))
        self.assertEqual(show(BOARD, state_of("s")), (("x", "y"), False))
        self.assertEqual(show(BOARD, state_of("sq")), (("y",), False))
        self.assertEqual(show(BOARD, state_of("s", True)), ((), True))

    def test_on_many_boards(self):
        for board in many_boards():
            for state in naive.states(board):
                lamps = tuple(naive.live(board, state, board.lamps))
                self.assertEqual(show(board, state), (lamps, state[1]))


class TestPlays(unittest.TestCase):
    PLAY = [S, R, Q, T, S, R, S, Q]
    STATES = [
        state_of(""),
        state_of("s"),
        state_of("sr"),
        state_of("sqr"),
        state_of("stqr", True),
        state_of("tqr", True),
        state_of("tq", True),
        state_of("stq", True),
        state_of("st", True),
    ]

    def test_walk(self):
        self.assertEqual(list(walk(BOARD, self.PLAY, hurry=2)), self.STATES)
        for count in range(9):
            states = list(walk(BOARD, self.PLAY[:count], hurry=8))
            self.assertEqual(states, self.STATES[: count + 1])

    def test_the_empty_play(self):
        self.assertEqual(list(walk(BOARD, [])), [state_of("")])
        self.assertEqual(list(walk(SHORTED, [])), [((False, False), True)])
        outcome = run(BOARD, [])
        self.assertEqual((outcome.state, outcome.due, outcome.show), (state_of(""), [], ((), False)))
        self.assertIs(outcome.at_rest, True)

    def test_walk_is_a_generator(self):
        self.assertIsInstance(walk(BOARD, self.PLAY), types.GeneratorType)

    def walked(self, play, **told):
        """The states that are yielded, and the number of the error behind them."""
        states = []
        try:
            for state in walk(BOARD, play, **told):
                states.append(state)
        except InvalidPlay as error:
            return states, error.number
        return states, None

    def check_invalid(self, play, number, **told):
        with self.subTest(play=play):
            states, found = self.walked(play, **told)
            self.assertEqual(found, number)
            self.assertEqual(states, list(walk(BOARD, play[:number], **told)))
            self.assertEqual(len(states), number + 1)
            with self.assertRaises(InvalidPlay) as caught:
                run(BOARD, play, **told)
            self.assertEqual(caught.exception.number, number)

    def test_moves_that_cannot_be_made(self):
        self.check_invalid([Q], 0)
        self.check_invalid([S, S], 1)
        self.check_invalid([S, Q, T, R], 2)
        self.check_invalid([S, Q, Q], 2)
        self.check_invalid([S, Q, R, T, S], 4)
        self.check_invalid([S, T], 1, hurry=1)
        self.check_invalid([S, Q, T, Q], 3, hurry=1)
        self.check_invalid([S, S, S, Q, S, S, R, R], 7, hurry=8)

    def test_moves_of_the_other_kind(self):
        self.check_invalid([("relay", "s")], 0, hurry=8)
        self.check_invalid([S, ("hand", "q")], 1, hurry=8)

    def test_moves_that_name_no_mover(self):
        for name in ("x", "y", "p", "a", "z", ""):
            for kind in ("hand", "relay"):
                self.check_invalid([(kind, name)], 0)
                self.check_invalid([S, R, (kind, name), S], 2, hurry=8)
        self.check_invalid([Q, ("hand", "z")], 0)
        self.check_invalid([("hand", "z"), Q], 0)

    def test_each_hurry(self):
        for hurry in range(9):
            states, number = self.walked([S, S], hurry=hurry)
            self.assertEqual(number, None if hurry >= 2 else 1)
            self.assertEqual(len(states), 3 if hurry >= 2 else 2)
            states, number = self.walked([S, Q, S], hurry=hurry)
            self.assertEqual(number, None if hurry >= 1 else 2)

    def test_run(self):
        outcome = run(BOARD, [S])
        self.assertIsInstance(outcome, Outcome)
        self.assertEqual(outcome.state, state_of("s"))
        self.assertEqual(outcome.due, ["q", "r"])
        self.assertEqual(outcome.show, (("x", "y"), False))
        self.assertIs(outcome.at_rest, False)
        outcome = run(BOARD, [S, Q, R, T])
        self.assertEqual(outcome.state, state_of("stqr", True))
        self.assertEqual(outcome.due, ["q", "r"])
        self.assertEqual(outcome.show, ((), True))
        self.assertIs(outcome.at_rest, False)
        outcome = run(BOARD, [S, Q, R, S, R, Q])
        self.assertEqual((outcome.state, outcome.due), (state_of(""), []))
        self.assertIs(outcome.at_rest, True)

    def test_the_first_state_with_a_short(self):
        outcome = run(SHORTED, [S])
        self.assertEqual(outcome.state, ((True, False), True))
        self.assertEqual(outcome.due, [])
        self.assertEqual(outcome.show, ((), True))
        outcome = run(SHORTED, [])
        self.assertEqual(outcome.state, ((False, False), True))
        with self.assertRaises(InvalidPlay) as caught:
            run(SHORTED, [S, R])
        self.assertEqual(caught.exception.number, 1)

    def test_random_plays(self):
        for seed, board in enumerate(many_boards()):
            dice = Dice(seed)
            hurry = dice.pick([0, 1, 2, 8])
            state = naive.first_state(board)
            states, play = [state], []
            for _ in range(12):
                moves = naive.moves(board, state, hurry)
                if moves:
                    play.append(dice.pick(moves))
                    state = naive.step(board, state, play[-1][1])
                    states.append(state)
            self.assertEqual(list(walk(board, play, hurry=hurry)), states)
            outcome = run(board, play, hurry=hurry)
            self.assertEqual(outcome.state, state)
            self.assertEqual(outcome.due, naive.due(board, state))
            self.assertEqual(outcome.show, show(board, state))
            self.assertIs(outcome.at_rest, not naive.due(board, state))

    def test_arguments_are_not_changed(self):
        play = list(self.PLAY)
        before = parts_of(BOARD)
        run(BOARD, play, hurry=8)
        list(walk(BOARD, play, hurry=8))
        switching_of(play)
        play_text(play)
        self.assertEqual(play, self.PLAY)
        self.assertEqual(parts_of(BOARD), before)

    def test_each_list_is_a_new_one(self):
        for question in (
            lambda: due(BOARD, state_of("s")),
            lambda: run(BOARD, [S]).due,
            lambda: switching_of([S, Q, T]),
            lambda: parse_play("hand s\nrelay r"),
        ):
            first = question()
            self.assertIs(type(first), list)
            kept = list(first)
            first.append("changed")
            self.assertEqual(question(), kept)

    def test_the_examples(self):
        board = Board(
            nodes=["p", "m", "a"],
            switches=["s"],
            relays=[("r", "a", "m")],
            lamps=[("lamp", "a", "m")],
            contacts=[("p", "a", "s", "make", "both")],
        )
        self.assertEqual(run(board, [("hand", "s")]).due, ["r"])
        self.assertEqual(run(board, [("hand", "s"), ("relay", "r")]).show, (("lamp",), False))
        with self.assertRaises(InvalidPlay) as caught:
            run(board, [("relay", "r")])
        self.assertEqual(caught.exception.number, 0)


class TestOutcome(unittest.TestCase):
    def test_fields(self):
        outcome = Outcome(((True,), False), ["r", "q"], (("x",), False))
        self.assertEqual(outcome.state, ((True,), False))
        self.assertEqual(outcome.due, ["r", "q"])
        self.assertEqual(outcome.show, (("x",), False))
        self.assertIs(outcome.at_rest, False)

    def test_by_names(self):
        outcome = Outcome(state=((), True), due=[], show=((), True))
        self.assertEqual((outcome.state, outcome.due, outcome.show), (((), True), [], ((), True)))
        self.assertIs(outcome.at_rest, True)

    def test_due_is_a_copy(self):
        names = ["r"]
        outcome = Outcome(((True,), False), names, ((), False))
        names.append("q")
        self.assertEqual(outcome.due, ["r"])
        names.clear()
        self.assertIs(outcome.at_rest, False)
        outcome.due.append("k")
        self.assertEqual(names, [])


class TestSwitching(unittest.TestCase):
    def test_switching_of(self):
        self.assertEqual(switching_of([]), [])
        self.assertEqual(switching_of([Q, R]), [])
        self.assertEqual(switching_of([S, Q, T, R, S, S]), ["s", "t", "s", "s"])
        self.assertEqual(switching_of([("relay", "s"), ("hand", "q")]), ["q"])


class TestTexts(unittest.TestCase):
    TEXTS = [
        ([], ""),
        ([S], "hand s"),
        ([Q], "relay q"),
        ([S, Q, T, ("relay", "relay"), ("hand", "hand")], "hand s\nrelay q\nhand t\nrelay relay\nhand hand"),
        ([("hand", "a" * 12), ("relay", "0")], "hand aaaaaaaaaaaa\nrelay 0"),
        ([("hand", "nobodyhas"), ("relay", "this")], "hand nobodyhas\nrelay this"),
    ]

    def test_there_and_back(self):
        for play, text in self.TEXTS:
            self.assertEqual(play_text(play), text)
            self.assertEqual(parse_play(text), play)
            for move in parse_play(text):
                self.assertIs(type(move), tuple)

    def test_many_plays(self):
        for seed in range(40):
            dice = Dice(seed)
            names = ["s", "t", "r9", "abcdefghijkl", "7"]
            play = [(dice.pick(["hand", "relay"]), dice.pick(names)) for _ in range(dice.below(30))]
            self.assertEqual(parse_play(play_text(play)), play)

    def test_other_forms(self):
        wrong = [
            "hand",
            "relay",
            "s",
            "hand ",
            " hand s",
            "hand s ",
            "hand  s",
            "hand\ts",
            "hand s t",
            "hand s relay r",
            "Hand s",
            "hands s",
            "first s",
            "s hand",
            "hand S",
            "hand -",
            "hand aaaaaaaaaaaaa",
            "hand s\r",
            "relay \u00e9",
            "relay r\u2028relay r",
            " ",
            "-",
        ]
        for line in wrong:
            self.check(line, 1)
            self.check(line + "\nhand s", 1)
            self.check("hand s\n" + line, 2)
            self.check("hand s\nrelay r\n" + line + "\nfoo\nhand s", 3)

    def check(self, text, line):
        with self.subTest(text=text):
            with self.assertRaises(InvalidNotation) as caught:
                parse_play(text)
            self.assertEqual(caught.exception.line, line)

    def test_empty_lines(self):
        self.check("\n", 1)
        self.check("\nhand s", 1)
        self.check("hand s\n", 2)
        self.check("hand s\n\nhand s", 2)
        self.check("hand s\nrelay r\n\n", 3)

    def test_the_example(self):
        self.assertEqual(parse_play("hand s\nrelay r"), [("hand", "s"), ("relay", "r")])


if __name__ == "__main__":
    unittest.main()
