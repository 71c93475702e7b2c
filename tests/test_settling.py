import inspect
import unittest

from leverhouse.boards import Board
from leverhouse.errors import InvalidState, TooMany
from leverhouse.plays import first_state, is_rest, run, step, walk
from leverhouse.search import all_states, first_play
from leverhouse.settling import Longest, Round, check_ranks, ranks, round_from, settles
from tests import naive
from tests.samples import Dice, busy_board, odd_board, parts_of

HURRIES = (0, 1, 2, 8)
S = ("hand", "s")
K, Q, R, Z = ("relay", "k"), ("relay", "q"), ("relay", "r"), ("relay", "z")


def board_of(nodes, switches, coils, *contacts):
    """A board with relays that have their coils between a node and minus."""
    return Board(
        nodes=["p", "m", *nodes],
        switches=list(switches),
        relays=[(name, node, "m") for name, node in coils],
        lamps=[("l", nodes[0], "m")],
        contacts=[(*contact, "both") for contact in contacts],
    )


# Its relay interrupts itself.
BUZZER = board_of("x", "", ["rx"], ("p", "x", "r", "break"))
# Its relay follows the switch.
PLAIN = board_of("x", "s", ["rx"], ("p", "x", "s", "make"))
# Relays in a row, each of which feeds the next one. The first is fed by the switch.
ROW = board_of(
    "abc", "s", ["rb", "qa", "kc"], ("p", "a", "s", "make"), ("p", "b", "q", "make"), ("p", "c", "r", "make")
)
# Two relays that go round through all four positions.
RING = board_of("ab", "", ["qa", "rb"], ("p", "a", "r", "break"), ("p", "b", "q", "make"))
# Two buzzers, and a third relay that is due until it moves.
TWO = board_of(
    "abc", "", ["ka", "qb", "rc"], ("p", "a", None, "make"), ("p", "b", "q", "break"), ("p", "c", "r", "break")
)
# A buzzer that is cut off as soon as r is up.
PASSING = board_of(
    "abc", "s", ["za", "rb"], ("p", "c", "s", "make"), ("c", "a", "z", "break"), ("a", "b", "r", "break"),
    ("p", "b", "r", "make"),
)
# The switch feeds q and r, and both hold themselves; z buzzes if q alone holds with the switch off.
HASTY = board_of(
    "abcdef",
    "s",
    ["qa", "rb", "zc"],
    ("p", "a", "s", "make"),
    ("p", "b", "s", "make"),
    ("p", "a", "q", "make"),
    ("p", "b", "r", "make"),
    ("p", "d", "q", "make"),
    ("d", "e", "r", "break"),
    ("e", "f", "s", "break"),
    ("f", "c", "z", "break"),
)
BARE = Board(nodes=["p", "m"], lamps=[("l", "p", "m")])


def many_boards():
    for seed in range(40):
        yield odd_board(seed, 2, 3)
        yield busy_board(seed)


def all_settle(board, hurry):
    reached = naive.reached(board, [naive.first_state(board)], hurry)
    return not any(naive.on_round(board, state) for state in reached)


def shows_settling(board, table, hurry):
    """Point 40, word by word."""
    if naive.first_state(board) not in [state for state, _ in table]:
        return False
    for state, number in table:
        for kind, name in naive.moves(board, state, hurry):
            places = [row for row in table if row[0] == naive.step(board, state, name)]
            if not places or kind == "relay" and not [row for row in places if row[1] < number]:
                return False
    return True


class TestRoundFrom(unittest.TestCase):
    def test_by_hand(self):
        self.assertEqual(round_from(BUZZER, ((False,), False)), [R, R])
        self.assertEqual(round_from(BUZZER, ((True,), False)), [R, R])
        self.assertEqual(round_from(RING, ((False, False), False)), [Q, R, Q, R])
        self.assertEqual(round_from(RING, ((True, False), False)), [R, Q, R, Q])
        self.assertEqual(round_from(RING, ((True, True), False)), [Q, R, Q, R])

    def test_no_round(self):
        self.assertIsNone(round_from(BARE, ((), False)))
        for movers in ((False, False), (False, True), (True, False), (True, True)):
            self.assertIsNone(round_from(PLAIN, (movers, False)))
            self.assertIsNone(round_from(PLAIN, (movers, True)))
        self.assertIsNone(round_from(BUZZER, ((True,), True)))
        self.assertIsNone(round_from(BUZZER, ((False,), True)))

    def test_another_relay_is_due_all_the_while(self):
        self.assertEqual(round_from(TWO, ((False,) * 3, False)), [Q, Q])
        self.assertEqual(round_from(TWO, ((True, False, False), False)), [Q, Q])
        self.assertEqual(round_from(TWO, ((False, True, True), False)), [Q, Q])

    def test_a_state_from_which_a_round_is_left(self):
        self.assertIsNone(round_from(PASSING, ((False, False, False), False)))
        for board in (PASSING, HASTY):
            for state in naive.states(board):
                self.assertEqual(round_from(board, state) is not None, naive.on_round(board, state))

    def test_a_short_ends_it(self):
        # The relay that comes up blows the fuse, and then falls for good.
        board = BUZZER.insert_contact(1, ("p", "m", "r", "make", "both"))
        self.assertIsNone(round_from(board, ((False,), False)))
        self.assertEqual(settles(board).count, 2)
        self.assertEqual(settles(board).play, [R, R])

    def test_states_that_are_not_reached(self):
        state = ((False, True, False, False), False)
        self.assertNotIn(state, all_states(HASTY))
        self.assertEqual(round_from(HASTY, state), [Z, Z])

    def test_on_many_boards(self):
        rounds = 0
        for board in many_boards():
            for state in naive.states(board):
                found = round_from(board, state)
                if not naive.on_round(board, state):
                    self.assertIsNone(found)
                    continue
                rounds += 1
                length = 1
                back = []
                while not back:
                    rows = naive.relay_rows(board, state, length)
                    back = [row for row, last in rows if last == state]
                    length += 1
                self.assertEqual(found, back[0])
        self.assertGreater(rounds, 100)

    def test_each_list_is_a_new_one(self):
        state = ((False,), False)
        round_from(BUZZER, state).clear()
        self.assertEqual(round_from(BUZZER, state), [R, R])


class TestSettles(unittest.TestCase):
    def check_round(self, board, play, moves, **told):
        found = settles(board, **told)
        self.assertIsInstance(found, Round)
        self.assertEqual((found.play, found.moves), (play, moves))
        self.assertIsNone(ranks(board, **told))

    def check_longest(self, board, play, count, **told):
        found = settles(board, **told)
        self.assertIsInstance(found, Longest)
        self.assertEqual((found.play, found.count), (play, count))
        self.assertIsNotNone(ranks(board, **told))

    def test_boards_that_do_not_settle(self):
        self.check_round(BUZZER, [], [R, R])
        self.check_round(RING, [], [Q, R, Q, R])
        self.check_round(TWO, [], [Q, Q])
        self.check_round(PASSING, [S], [Z, Z])
        self.check_round(PASSING, [S], [Z, Z], hurry=8)

    def test_several_hurries(self):
        self.check_longest(HASTY, [S, Q, R], 2)
        self.check_round(HASTY, [S, Q, S], [Z, Z], hurry=1)
        self.check_round(HASTY, [S, Q, S], [Z, Z], hurry=8)

    def test_boards_without_relays(self):
        self.check_longest(BARE, [], 0)
        self.check_longest(board_of("x", "st", [], ("p", "x", "s", "make")), [], 0, hurry=8)

    def test_rows_of_several_relays(self):
        self.check_longest(PLAIN, [S, R], 1)
        self.check_longest(ROW, [S, Q, R, K], 3)
        self.check_longest(ROW, [S, Q, S, R, Q, K, R, K], 5, hurry=1)

    def test_relays_that_are_due_at_once(self):
        coils = [f"{name}a" for name in "zqkr"]
        board = board_of("a", "s", coils, ("p", "a", "s", "make"))
        self.check_longest(board, [S, Z, Q, K, R], 4)
        self.check_longest(board, [S, Z, Q, K, R], 4, hurry=8)

    def test_the_first_of_the_longest_rows(self):
        # If q is up first, r never goes up; so the row does not begin with the earlier relay.
        board = board_of(
            "ab", "s", ["qa", "rb"], ("p", "a", "s", "make"), ("a", "b", "q", "break"), ("a", "b", "r", "make")
        )
        self.check_longest(board, [S, R, Q], 2)
        self.check_longest(board, [S, R, Q], 2, hurry=1)

    def test_relays_that_are_due_in_the_first_state(self):
        board = board_of("a", "", ["qa", "ra"], ("p", "a", None, "make"))
        self.check_longest(board, [Q, R], 2)

    def test_on_many_boards(self):
        kinds = []
        for board in many_boards():
            for hurry in HURRIES:
                reached = naive.reached(board, [naive.first_state(board)], hurry)
                on_rounds = [state for state in reached if naive.on_round(board, state)]
                found = settles(board, hurry=hurry)
                if on_rounds:
                    moves = round_from(board, on_rounds[0])
                    self.assertIsInstance(found, Round)
                    self.assertEqual((found.play, found.moves), (reached[on_rounds[0]][1], moves))
                    self.assertIsNone(ranks(board, hurry=hurry))
                    kinds.append("round")
                else:
                    self.check_naive_longest(board, reached, found)
                    kinds.append(found.count)
        self.assertGreater(kinds.count("round"), 20)
        self.assertGreater(kinds.count(2) + kinds.count(3), 20)

    def check_naive_longest(self, board, reached, found):
        numbers = {state: naive.longest(board, state) for state in reached}
        count = max(numbers.values())
        state = [state for state in reached if numbers[state] == count][0]
        rows = naive.relay_rows(board, state, count)
        self.assertIsInstance(found, Longest)
        self.assertEqual((found.play, found.count), (reached[state][1] + rows[0][0], count))

    def test_what_is_told_can_be_played(self):
        for board in many_boards():
            found = settles(board, hurry=1)
            if isinstance(found, Round):
                states = list(walk(board, found.play + found.moves, hurry=1))
                self.assertEqual(states[-1], states[len(found.play)])
                self.assertEqual({kind for kind, _ in found.moves}, {"relay"})
                self.assertEqual(first_play(board, [states[-1]], hurry=1), found.play)
            else:
                last = [kind for kind, _ in found.play][len(found.play) - found.count:]
                self.assertEqual(last, ["relay"] * found.count)
                self.assertTrue(run(board, found.play, hurry=1).at_rest)

    def test_smaller_hurries(self):
        for board in many_boards():
            settled = [isinstance(settles(board, hurry=hurry), Longest) for hurry in (0, 1, 2, 3, 8)]
            self.assertEqual(settled, sorted(settled, reverse=True))

    def test_the_examples(self):
        self.assertEqual(round_from(BUZZER, first_state(BUZZER)), [R, R])
        board = Board(
            nodes=["p", "m", "x", "y"],
            switches=["s"],
            relays=[("r", "x", "m")],
            lamps=[("l", "y", "m")],
            contacts=[("p", "x", "s", "make", "both"), ("p", "y", "r", "make", "both")],
        )
        longest = settles(board)
        self.assertEqual((longest.play, longest.count), ([S, R], 1))


class TestResults(unittest.TestCase):
    def test_round(self):
        play, moves = [S], [R, R]
        found = Round(play, moves)
        self.assertEqual((found.play, found.moves), ([S], [R, R]))
        play.clear()
        moves.clear()
        self.assertEqual((found.play, found.moves), ([S], [R, R]))
        found = Round(moves=[Q, Q], play=[])
        self.assertEqual((found.play, found.moves), ([], [Q, Q]))

    def test_longest(self):
        play = [S, R]
        found = Longest(play, 1)
        play.clear()
        self.assertEqual((found.play, found.count), ([S, R], 1))
        found = Longest(count=0, play=[])
        self.assertEqual((found.play, found.count), ([], 0))


class TestLimit(unittest.TestCase):
    def test_too_many(self):
        for board in (BUZZER, PLAIN, ROW, RING, PASSING, HASTY, busy_board(3)):
            for hurry in (0, 8):
                count = len(all_states(board, hurry=hurry))
                for question in (settles, ranks):
                    question(board, hurry=hurry, limit=count)
                    question(board, hurry=hurry, limit=count + 1)
                    for limit in {1, count - 1} - {count}:
                        with self.assertRaises(TooMany) as caught:
                            question(board, hurry=hurry, limit=limit)
                        self.assertEqual(caught.exception.limit, limit)

    def test_the_limit_that_is_not_given(self):
        for function in (settles, ranks):
            parameters = inspect.signature(function).parameters
            self.assertEqual(parameters["limit"].default, 3000)
            self.assertEqual(parameters["hurry"].default, 0)
        self.assertEqual(inspect.signature(check_ranks).parameters["hurry"].default, 0)

    def test_no_limit_for_one_round(self):
        # No function that looks at one state or at a list of states counts anything.
        self.assertEqual(list(inspect.signature(round_from).parameters), ["board", "state"])
        self.assertEqual(list(inspect.signature(check_ranks).parameters), ["board", "table", "hurry"])

    def test_many_relays(self):
        coils = [f"r{k}" for k in range(8)]
        board = Board(
            nodes=["p", "m", "a"],
            switches=["s", "t"],
            relays=[(name, "a", "m") for name in coils],
            lamps=[("l", "a", "m")],
            contacts=[("p", "a", "s", "make", "both")],
        )
        found = settles(board, hurry=8)
        self.assertEqual((found.play, found.count), ([S] + [("relay", name) for name in coils], 8))
        buzzers = Board(
            nodes=["p", "m"] + [f"n{k}" for k in range(8)],
            relays=[(name, f"n{k}", "m") for k, name in enumerate(coils)],
            lamps=[("l", "p", "m")],
            contacts=[("p", f"n{k}", name, "break", "both") for k, name in enumerate(coils)],
        )
        found = settles(buzzers)
        self.assertEqual((found.play, found.moves), ([], [("relay", "r0"), ("relay", "r0")]))
        state = ((True,) * 8, False)
        self.assertEqual(round_from(buzzers, state), [("relay", "r0"), ("relay", "r0")])


class TestRanks(unittest.TestCase):
    def test_by_hand(self):
        self.assertEqual(ranks(BARE), [(((), False), 0)])
        expected = [
            (((False, False), False), 0),
            (((True, False), False), 1),
            (((True, True), False), 0),
            (((False, True), False), 1),
        ]
        self.assertEqual(ranks(PLAIN), expected)

    def test_boards_that_do_not_settle(self):
        for board in (BUZZER, RING, TWO, PASSING):
            self.assertIsNone(ranks(board))
        self.assertIsNotNone(ranks(HASTY))
        self.assertIsNone(ranks(HASTY, hurry=1))

    def test_on_many_boards(self):
        for board in many_boards():
            for hurry in HURRIES:
                if all_settle(board, hurry):
                    states = all_states(board, hurry=hurry)
                    expected = [(state, naive.longest(board, state)) for state in states]
                    self.assertEqual(ranks(board, hurry=hurry), expected)
                else:
                    self.assertIsNone(ranks(board, hurry=hurry))

    def test_each_list_is_a_new_one(self):
        kept = ranks(PLAIN)
        ranks(PLAIN).clear()
        self.assertEqual(ranks(PLAIN), kept)


class TestCheckRanks(unittest.TestCase):
    def test_right_lists(self):
        for board in many_boards():
            for hurry in HURRIES:
                table = ranks(board, hurry=hurry)
                if table is not None:
                    self.assertIs(check_ranks(board, table, hurry=hurry), True)
                    self.assertIs(check_ranks(board, table[::-1], hurry=hurry), True)
                    self.assertIs(check_ranks(board, table + table, hurry=hurry), True)

    def test_a_hurry_that_is_too_great(self):
        self.assertIs(check_ranks(HASTY, ranks(HASTY)), True)
        self.assertIs(check_ranks(HASTY, ranks(HASTY), hurry=1), False)
        table = ranks(ROW, hurry=8)
        for hurry in range(9):
            self.assertIs(check_ranks(ROW, table, hurry=hurry), True)

    def test_the_empty_list(self):
        self.assertIs(check_ranks(BARE, []), False)
        self.assertIs(check_ranks(PLAIN, []), False)
        self.assertIs(check_ranks(BARE, [(((), False), 0)]), True)
        self.assertIs(check_ranks(BARE, [(((), False), 9)]), True)

    def test_an_entry_left_out(self):
        for board in (PLAIN, ROW, HASTY):
            table = ranks(board)
            for number in range(len(table)):
                rest = table[:number] + table[number + 1:]
                self.assertIs(check_ranks(board, rest), False)
        # Without the first state, all others may be there and fit.
        state = ((False,), False)
        board = board_of("a", "", ["ra"], ("p", "a", None, "make"))
        self.assertIs(check_ranks(board, [(((True,), False), 0)]), False)
        self.assertIs(check_ranks(board, [(((True,), False), 0), (state, 1)]), True)

    def test_numbers(self):
        board = board_of("a", "", ["qa", "ra"], ("p", "a", None, "make"))
        table = ranks(board)
        self.assertEqual([number for _, number in table], [2, 1, 1, 0])
        for at, number in ((0, 1), (0, 0), (1, 0), (1, 2), (2, 0), (2, 2), (3, 1), (3, 2), (3, 5)):
            changed = list(table)
            changed[at] = (table[at][0], number)
            self.assertIs(check_ranks(board, changed), False, (at, number))
        for at, number in ((0, 3), (0, 1000)):
            changed = list(table)
            changed[at] = (table[at][0], number)
            self.assertIs(check_ranks(board, changed), True, (at, number))
        spread = [(state, 10 * number + 3) for state, number in table]
        self.assertIs(check_ranks(board, spread), True)

    def test_an_equal_number_is_not_less(self):
        board = board_of("a", "", ["ra"], ("p", "a", None, "make"))
        up, down = ((True,), False), ((False,), False)
        self.assertIs(check_ranks(board, [(down, 0), (up, 0)]), False)
        self.assertIs(check_ranks(board, [(down, 4), (up, 4)]), False)
        self.assertIs(check_ranks(board, [(down, 5), (up, 4)]), True)

    def test_hands_need_no_smaller_number(self):
        board = board_of("x", "s", [], ("p", "x", "s", "make"))
        on, off = ((True,), False), ((False,), False)
        for table in ([(off, 0), (on, 0)], [(off, 0), (on, 7)], [(off, 7), (on, 0)]):
            self.assertIs(check_ranks(board, table), True)

    def test_a_state_twice(self):
        board = board_of("a", "", ["ra"], ("p", "a", None, "make"))
        up, down = ((True,), False), ((False,), False)
        for table, right in (
            ([(down, 1), (up, 0), (up, 9)], True),
            ([(down, 1), (up, 9), (up, 0)], True),
            ([(up, 9), (up, 0), (down, 1)], True),
            ([(down, 1), (down, 9), (up, 0)], True),
            ([(down, 9), (down, 1), (up, 5)], False),
            ([(down, 1), (down, 9), (up, 5)], False),
            ([(down, 9), (down, 0), (up, 0)], False),
            ([(down, 1), (up, 0), (down, 1)], True),
        ):
            self.assertIs(check_ranks(board, table), right, table)

    def test_states_that_are_not_reached(self):
        table = ranks(PLAIN)
        blown = [
            (((False, False), True), 0),
            (((True, False), True), 0),
            (((False, True), True), 1),
            (((True, True), True), 1),
        ]
        self.assertIs(check_ranks(PLAIN, table + blown), True)
        self.assertIs(check_ranks(PLAIN, blown + table), True)
        self.assertIs(check_ranks(PLAIN, table + blown[:1]), False)
        self.assertIs(check_ranks(PLAIN, table + blown[:3]), True)
        self.assertIs(check_ranks(PLAIN, table + [*blown[:2], (((False, True), True), 0)]), False)

    def test_lists_for_boards_that_do_not_settle(self):
        for board in (BUZZER, RING, TWO, PASSING):
            for most in (1, 2, 5):
                states = list(naive.states(board))
                table = [(state, number) for state in states for number in range(most)]
                self.assertIs(check_ranks(board, table, hurry=1), False)

    def test_wrong_states(self):
        shorted = PLAIN.insert_contact(0, ("p", "m", "s", "make", "both"))
        good = (((False, False), False), 0)
        for state in (
            ((), False),
            ((False,), False),
            ((False, False, False), False),
            ((True, False), False),
            ((True, True), False),
        ):
            for table in ([(state, 0)], [good, (state, 3)], [(state, 0), good], [good, good, (state, 0)]):
                with self.subTest(table=table), self.assertRaises(InvalidState):
                    check_ranks(shorted, table)
        self.assertIs(check_ranks(shorted, [good]), False)

    def test_wrong_states_come_before_anything_else(self):
        wrong = (((False,), False), 0)
        # The list is no right one before its last state either.
        for table in ([wrong], [(((True, False), False), 0), wrong]):
            with self.assertRaises(InvalidState):
                check_ranks(PLAIN, table)
        with self.assertRaises(InvalidState):
            check_ranks(BUZZER, [(((False,), False), 0), (((False, False), False), 0)])

    def test_changed_lists_on_many_boards(self):
        right = 0
        for seed, board in enumerate(many_boards()):
            dice = Dice(seed)
            states = list(naive.states(board))
            for hurry in (0, 1):
                table = ranks(board, hurry=hurry) or [(state, dice.below(4)) for state in states]
                for _ in range(6):
                    changed = list(table)
                    change = dice.below(4)
                    at = dice.below(len(changed))
                    state, number = changed[at]
                    if change == 0:
                        del changed[at]
                    elif change == 1:
                        changed[at] = (state, max(0, number + dice.below(3) - 1))
                    elif change == 2:
                        changed.insert(at, (dice.pick(states), dice.below(3)))
                    else:
                        changed[at] = (dice.pick(states), number)
                    expected = shows_settling(board, changed, hurry)
                    given = list(changed)
                    self.assertIs(check_ranks(board, given, hurry=hurry), expected)
                    self.assertEqual(given, changed)
                    right += expected
        self.assertGreater(right, 50)

    def test_no_row_is_longer_than_the_least_number(self):
        for board in (PLAIN, ROW, HASTY):
            table = [(state, 2 * number) for state, number in ranks(board)] + ranks(board)
            self.assertIs(check_ranks(board, table), True)
            for state, number in table:
                self.assertLessEqual(naive.longest(board, state), number)

    def test_boards_do_not_change(self):
        before = parts_of(ROW)
        settles(ROW, hurry=2)
        self.assertIs(check_ranks(ROW, ranks(ROW)), True)
        self.assertEqual(parts_of(ROW), before)

    def test_states_of_rank_0_are_at_rest(self):
        for state, number in ranks(ROW, hurry=8):
            self.assertEqual(number == 0, is_rest(ROW, state))
            for kind, name in naive.moves(ROW, state, 0):
                if kind == "relay":
                    behind = dict(ranks(ROW, hurry=8))[step(ROW, state, (kind, name))]
                    self.assertLess(behind, number)


if __name__ == "__main__":
    unittest.main()
