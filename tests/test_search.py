import inspect
import unittest

from leverhouse import search
from leverhouse.boards import Board
from leverhouse.errors import TooMany
from leverhouse.plays import walk
from leverhouse.search import all_states, explore, explore_from, first_play, moves, rounds_of
from tests import naive
from tests.samples import Dice, busy_board, odd_board, parts_of

HURRIES = (0, 1, 2, 8)

# With s on, q and r are due at once; with both up there is a short if t is on, too.
BOARD = Board(
    nodes=["p", "m", "a", "n", "o"],
    switches=["s", "t"],
    relays=[("q", "a", "m"), ("r", "m", "a")],
    lamps=[("x", "a", "m")],
    contacts=[
        ("p", "a", "s", "make", "both"),
        ("p", "n", "q", "make", "both"),
        ("n", "o", "r", "make", "both"),
        ("o", "m", "t", "make", "both"),
    ],
)
S, T = ("hand", "s"), ("hand", "t")
Q, R = ("relay", "q"), ("relay", "r")
# A board with two states.
LAMP = Board(
    nodes=["plus", "minus", "n"],
    switches=["s"],
    lamps=[("l", "n", "minus")],
    contacts=[("plus", "n", "s", "make", "both")],
)


def state_of(on, blown=False):
    """The state of BOARD in which the movers s, t, q, r of this string are on."""
    return (tuple(name in on for name in "stqr"), blown)


def many_boards():
    for seed in range(30):
        yield odd_board(seed)
        yield busy_board(seed)


def small_boards():
    """Boards of which all plays of some length can be listed."""
    for seed in range(40):
        yield odd_board(seed, 2, 2)
        yield busy_board(seed, 1, 2)


class TestMoves(unittest.TestCase):
    def test_order(self):
        self.assertEqual(moves(BOARD, state_of("")), [S, T])
        self.assertEqual(moves(BOARD, state_of("s")), [Q, R])
        self.assertEqual(moves(BOARD, state_of("s"), hurry=1), [Q, R])
        self.assertEqual(moves(BOARD, state_of("s"), hurry=2), [S, T, Q, R])
        self.assertEqual(moves(BOARD, state_of("sq")), [R])
        self.assertEqual(moves(BOARD, state_of("sq"), hurry=1), [S, T, R])
        self.assertEqual(moves(BOARD, state_of("sqr"), hurry=8), [S, T])
        self.assertEqual(moves(BOARD, state_of("qr", True), hurry=8), [S, T, Q, R])

    def test_the_order_is_that_of_the_numbers(self):
        board = Board(
            nodes=["p", "m", "a"],
            switches=["z", "b"],
            relays=[("y", "a", "m"), ("a", "a", "m")],
            lamps=[("x", "a", "m")],
            contacts=[("p", "a", None, "make", "both")],
        )
        expected = [("hand", "z"), ("hand", "b"), ("relay", "y"), ("relay", "a")]
        self.assertEqual(moves(board, ((False,) * 4, False), hurry=2), expected)

    def test_no_moves(self):
        board = Board(nodes=["p", "m"], lamps=[("x", "p", "m")])
        self.assertEqual(moves(board, ((), False)), [])
        self.assertEqual(all_states(board), [((), False)])
        self.assertEqual(list(rounds_of(board, limit=1)), [[((), False)]])

    def test_on_many_boards(self):
        for board in many_boards():
            for state in naive.states(board):
                for hurry in HURRIES:
                    self.assertEqual(moves(board, state, hurry=hurry), naive.moves(board, state, hurry))


class TestOrder(unittest.TestCase):
    def test_by_hand(self):
        states = [
            state_of(""),
            state_of("s"),
            state_of("t"),
            state_of("sq"),
            state_of("sr"),
            state_of("st"),
            state_of("sqr"),
        ]
        self.assertEqual(all_states(BOARD)[:7], states)
        found = explore(BOARD)
        self.assertEqual(found.play_to(state_of("")), [])
        self.assertEqual(found.play_to(state_of("st")), [T, S])
        self.assertEqual(found.play_to(state_of("sqr")), [S, Q, R])
        self.assertEqual(found.play_to(state_of("stqr", True)), [S, Q, R, T])
        self.assertEqual(found.play_to(state_of("qr")), [S, Q, R, S])
        self.assertEqual(explore(BOARD, hurry=2).play_to(state_of("st")), [S, T])

    def test_as_all_plays_are_listed(self):
        for board in small_boards():
            for hurry in HURRIES:
                plays = {}
                for play, state in naive.plays_by_length(board, hurry, 4):
                    plays.setdefault(state, play)
                found = explore(board, hurry=hurry)
                near = [state for state in found.states if len(found.play_to(state)) <= 4]
                self.assertEqual(near, list(plays))
                for state in near:
                    self.assertEqual(found.play_to(state), plays[state])

    def test_on_many_boards(self):
        for board in many_boards():
            for hurry in HURRIES:
                first = naive.first_state(board)
                expected = naive.reached(board, [first], hurry)
                found = explore(board, hurry=hurry)
                self.assertEqual(found.states, list(expected))
                self.assertEqual(all_states(board, hurry=hurry), list(expected))
                for state, (_, play) in expected.items():
                    self.assertEqual(found.play_to(state), play)
                    self.assertEqual(found.start_of(state), first)
                    self.assertEqual(list(walk(board, play, hurry=hurry))[-1], state)

    def test_states_that_differ_only_in_the_fuse(self):
        both = [state for state in all_states(BOARD) if (state[0], not state[1]) in all_states(BOARD)]
        self.assertIn(state_of(""), both)
        self.assertIn(state_of("", True), both)
        found = explore(BOARD)
        self.assertTrue(found.holds(state_of("s", True)))
        self.assertTrue(found.holds(state_of("s")))
        self.assertEqual(found.play_to(state_of("s")), [S])
        self.assertEqual(found.play_to(state_of("s", True))[:4], [S, Q, R, T])
        self.assertNotEqual(
            found.states.index(state_of("s")), found.states.index(state_of("s", True))
        )

    def test_holds(self):
        for board in small_boards():
            found = explore(board)
            for state in naive.states(board):
                self.assertIs(found.holds(state), state in found.states)
        self.assertIs(explore(LAMP).holds(((False,), True)), False)
        self.assertIs(explore(LAMP).holds(((True,), False)), True)

    def test_no_hurry_is_hurry_0(self):
        self.assertEqual(all_states(BOARD), all_states(BOARD, hurry=0))
        self.assertNotEqual(all_states(BOARD), all_states(BOARD, hurry=2))

    def test_the_first_state_and_steps_close_the_reached_states(self):
        for board in many_boards():
            states = {state: True for state in all_states(board, hurry=1)}
            self.assertIn(naive.first_state(board), states)
            for state in states:
                for move in moves(board, state, hurry=1):
                    self.assertIn(naive.step(board, state, move[1]), states)

    def test_the_example(self):
        self.assertEqual(all_states(LAMP), [((False,), False), ((True,), False)])


class TestStarts(unittest.TestCase):
    def check(self, board, starts, hurry):
        expected = naive.reached(board, starts, hurry)
        given = list(starts)
        found = explore_from(board, given, hurry=hurry)
        self.assertEqual(given, starts)
        self.assertEqual(found.states, list(expected))
        for state, (start, play) in expected.items():
            self.assertIs(found.holds(state), True)
            self.assertEqual(found.start_of(state), start)
            self.assertEqual(found.play_to(state), play)

    def test_no_starts(self):
        found = explore_from(BOARD, [])
        self.assertEqual(found.states, [])
        self.assertIs(found.holds(state_of("")), False)
        self.assertEqual(explore_from(BOARD, [], hurry=8, limit=1).states, [])

    def test_the_first_state_alone(self):
        for board in many_boards():
            found = explore_from(board, [naive.first_state(board)], hurry=1)
            self.assertEqual(found.states, all_states(board, hurry=1))

    def test_by_hand(self):
        self.check(BOARD, [state_of("sqr"), state_of("")], 0)
        found = explore_from(BOARD, [state_of("sqr"), state_of("")])
        self.assertEqual(found.states[:6], [state_of(on) for on in ("sqr", "", "qr")] + [
            state_of("stqr", True), state_of("s"), state_of("t")
        ])
        self.assertEqual(found.start_of(state_of("")), state_of(""))
        self.assertEqual(found.start_of(state_of("qr")), state_of("sqr"))
        self.assertEqual(found.play_to(state_of("qr")), [S])

    def test_one_start_twice(self):
        starts = [state_of("s"), state_of("t"), state_of("s"), state_of("t"), state_of("t")]
        self.check(BOARD, starts, 0)
        self.assertEqual(
            explore_from(BOARD, starts).states, explore_from(BOARD, starts[:2]).states
        )
        count = len(explore_from(LAMP, [((True,), False)] * 5, limit=2).states)
        self.assertEqual(count, 2)

    def test_a_start_that_an_earlier_one_reaches(self):
        self.check(BOARD, [state_of(""), state_of("s"), state_of("sq")], 0)
        found = explore_from(BOARD, [state_of(""), state_of("s")])
        self.assertEqual(found.start_of(state_of("s")), state_of("s"))
        self.assertEqual(found.play_to(state_of("s")), [])

    def test_the_order_of_the_starts(self):
        one, other = state_of("sq"), state_of("sr")
        self.assertEqual(explore_from(BOARD, [one, other]).start_of(state_of("sqr")), one)
        self.assertEqual(explore_from(BOARD, [other, one]).start_of(state_of("sqr")), other)
        self.assertEqual(explore_from(BOARD, [other, one]).play_to(state_of("sqr")), [Q])

    def test_on_many_boards(self):
        for seed, board in enumerate(many_boards()):
            dice = Dice(seed)
            states = list(naive.states(board))
            starts = [dice.pick(states) for _ in range(1 + dice.below(4))]
            self.check(board, starts, dice.pick(HURRIES))


class TestLimit(unittest.TestCase):
    def check_limit(self, question, count):
        """The question raises TooMany exactly below this limit."""
        question(count)
        question(count + 1)
        for limit in {1, count // 2, count - 2, count - 1} - {0, -1, count}:
            with self.assertRaises(TooMany) as caught:
                question(limit)
            self.assertEqual(caught.exception.limit, limit)

    def test_each_function(self):
        boards = [LAMP, BOARD, busy_board(4), odd_board(1, 3, 3), busy_board(7, 3, 3)]
        for board in boards:
            for hurry in (0, 8):
                count = len(all_states(board, hurry=hurry))
                first = naive.first_state(board)
                told = {"hurry": hurry}
                self.check_limit(lambda k: explore(board, limit=k, **told), count)
                self.check_limit(lambda k: all_states(board, limit=k, **told), count)
                self.check_limit(lambda k: explore_from(board, [first], limit=k, **told), count)
                self.check_limit(lambda k: first_play(board, [first], limit=k, **told), count)
                self.check_limit(lambda k: first_play(board, [], limit=k, **told), count)
                self.check_limit(lambda k: list(rounds_of(board, limit=k, **told)), count)

    def test_starts_are_counted(self):
        states = [state_of(on) for on in ("", "s", "t", "st")]
        count = len(explore_from(BOARD, states).states)
        self.check_limit(lambda k: explore_from(BOARD, states, limit=k), count)
        self.assertEqual(len(explore_from(LAMP, [((True,), False), ((False,), False)], limit=2).states), 2)
        with self.assertRaises(TooMany):
            explore_from(LAMP, [((True,), False), ((False,), False)], limit=1)

    def test_the_limit_that_is_not_given(self):
        self.assertEqual(search.LIMIT, 3000)
        for function in (explore, explore_from, all_states, first_play, rounds_of):
            parameters = inspect.signature(function).parameters
            self.assertEqual(parameters["limit"].default, 3000)
            self.assertEqual(parameters["hurry"].default, 0)
            self.assertIs(parameters["limit"].kind, inspect.Parameter.KEYWORD_ONLY)
            self.assertIs(parameters["hurry"].kind, inspect.Parameter.KEYWORD_ONLY)

    def test_more_than_3000_states(self):
        # Each relay follows a switch of its own, so that in a great hurry all positions are reached.
        switches = [f"s{k}" for k in range(6)]
        nodes = ["p", "m"] + [f"n{k}" for k in range(6)]
        relays = [(f"r{k}", f"n{k}", "m") for k in range(6)]
        contacts = [("p", f"n{k}", f"s{k}", "make", "both") for k in range(6)]
        board = Board(
            nodes=nodes, switches=switches, relays=relays, lamps=[("x", "n0", "m")], contacts=contacts
        )
        with self.assertRaises(TooMany) as caught:
            all_states(board, hurry=8)
        self.assertEqual(caught.exception.limit, 3000)
        self.assertEqual(len(all_states(board, hurry=8, limit=4096)), 4096)


class TestFirstPlay(unittest.TestCase):
    def test_by_hand(self):
        self.assertEqual(first_play(BOARD, [state_of("sqr")]), [S, Q, R])
        self.assertEqual(first_play(BOARD, [state_of("sqr"), state_of("st")]), [T, S])
        self.assertEqual(first_play(BOARD, [state_of("st"), state_of("sqr")]), [T, S])
        self.assertEqual(first_play(BOARD, [state_of("sr"), state_of("sq")]), [S, Q])
        self.assertEqual(first_play(BOARD, [state_of("st")], hurry=8), [S, T])

    def test_the_first_state(self):
        self.assertEqual(first_play(BOARD, [state_of("")]), [])
        self.assertEqual(first_play(BOARD, [state_of("s"), state_of("")]), [])

    def test_no_states(self):
        self.assertIsNone(first_play(BOARD, []))
        self.assertIsNone(first_play(BOARD, [], hurry=8))

    def test_states_that_are_not_reached(self):
        self.assertIsNone(first_play(LAMP, [((True,), True)]))
        self.assertIsNone(first_play(LAMP, [((True,), True), ((False,), True)], hurry=8))
        self.assertEqual(first_play(LAMP, [((True,), True), ((True,), False)]), [S])

    def test_a_state_twice(self):
        self.assertEqual(first_play(BOARD, [state_of("st"), state_of("st")]), [T, S])

    def test_on_many_boards(self):
        for seed, board in enumerate(many_boards()):
            dice = Dice(seed)
            hurry = dice.pick(HURRIES)
            states = list(naive.states(board))
            wanted = [dice.pick(states) for _ in range(1 + dice.below(3))]
            given = list(wanted)
            reached = naive.reached(board, [naive.first_state(board)], hurry)
            plays = [play for state, (_, play) in reached.items() if state in wanted]
            self.assertEqual(first_play(board, given, hurry=hurry), plays[0] if plays else None)
            self.assertEqual(given, wanted)

    def test_the_example(self):
        board = Board(
            nodes=["plus", "minus", "n"],
            switches=["s"],
            relays=[("r", "n", "minus")],
            lamps=[("l", "n", "minus")],
            contacts=[("plus", "n", "s", "make", "both")],
        )
        play = [("hand", "s"), ("relay", "r"), ("hand", "s")]
        self.assertEqual(first_play(board, [((False, True), False)]), play)


class TestRounds(unittest.TestCase):
    def test_by_hand(self):
        rounds = list(rounds_of(BOARD))
        self.assertEqual(rounds[0], [state_of("")])
        self.assertEqual(rounds[1], [state_of("s"), state_of("t")])
        self.assertEqual(rounds[2], [state_of("sq"), state_of("sr"), state_of("st")])
        self.assertEqual(list(rounds_of(LAMP)), [[((False,), False)], [((True,), False)]])

    def test_on_many_boards(self):
        for board in many_boards():
            for hurry in HURRIES:
                reached = naive.reached(board, [naive.first_state(board)], hurry)
                depths = [len(play) for _, play in reached.values()]
                expected = [
                    [state for state in reached if len(reached[state][1]) == depth]
                    for depth in range(max(depths) + 1)
                ]
                self.assertEqual(list(rounds_of(board, hurry=hurry)), expected)

    def test_iterated_once_and_again(self):
        rounds = rounds_of(BOARD)
        first = next(iter(rounds))
        self.assertEqual(first, [state_of("")])
        whole = list(rounds_of(BOARD))
        self.assertEqual(whole, list(rounds_of(BOARD)))
        self.assertEqual(sum(len(states) for states in whole), len(all_states(BOARD)))
        self.assertEqual([state for states in whole for state in states], all_states(BOARD))

    def test_too_many_comes_with_the_first_round(self):
        rounds = iter(rounds_of(BOARD, limit=2))
        with self.assertRaises(TooMany) as caught:
            next(rounds)
        self.assertEqual(caught.exception.limit, 2)

    def test_a_changed_round_changes_no_later_one(self):
        whole = list(rounds_of(BOARD))
        seen = []
        for states in rounds_of(BOARD):
            seen.append(list(states))
            states.reverse()
            states.clear()
        self.assertEqual(seen, whole)


class TestKeeping(unittest.TestCase):
    def test_a_changed_list_changes_no_later_answer(self):
        found = explore(BOARD)
        states = list(found.states)
        plays = [found.play_to(state) for state in states]
        for state in states:
            found.play_to(state).reverse()
            found.play_to(state).append("changed")
        self.assertEqual([found.play_to(state) for state in states], plays)
        all_states(BOARD).clear()
        moves(BOARD, state_of("")).clear()
        self.assertEqual(all_states(BOARD), states)
        self.assertEqual(moves(BOARD, state_of("")), [S, T])
        first_play(BOARD, [state_of("st")]).clear()
        self.assertEqual(first_play(BOARD, [state_of("st")]), [T, S])

    def test_changed_starts_change_no_later_answer(self):
        starts = [state_of("sq"), state_of("")]
        found = explore_from(BOARD, starts)
        states = list(found.states)
        starts.clear()
        self.assertEqual(found.states, states)
        self.assertEqual(found.start_of(state_of("sqr")), state_of("sq"))
        self.assertEqual(found.play_to(state_of("sqr")), [R])

    def test_boards_do_not_change(self):
        before = parts_of(BOARD)
        explore(BOARD, hurry=8)
        self.assertEqual(parts_of(BOARD), before)


if __name__ == "__main__":
    unittest.main()
