"""Certificates read and checked once more, to compare the program with.

A text is read line by line as one pattern for each form, and is checked with tests.slow.
"""

import re

from tests import naive, slow

STATE = r"(?:-|[01]+) (?:whole|blown)"
NUMBER = r"(?:0|[1-9][0-9]{0,8})"
MOVE = r"(?:hand|relay) [a-z0-9]{1,12}"
TURN = r"relay [a-z0-9]{1,12}"

# For each form the pattern of its head and those of the lines behind it, in their order.
ALONE = {
    "settles": (r"settles [0-8]", [rf"state {STATE} {NUMBER}"]),
    "round": (r"round [0-8]", [rf"go {MOVE}", rf"turn {TURN}"]),
}
TOGETHER = {
    "agree": (r"agree [0-8]", [rf"pair {STATE} {STATE} {NUMBER}"]),
    "round": (r"round [0-8] (?:one|other)", [rf"go {MOVE}", rf"turn {TURN}"]),
    "part": (r"part [0-8]", [rf"first {MOVE}", rf"second {MOVE}"]),
}


def may_begin(lines, forms):
    """True if these lines may stand at the beginning of a text of one of the forms."""
    text = "".join(f"{line}\n" for line in lines)
    for head, rows in forms.values():
        body = "".join(rf"(?:{row}\n)*" for row in rows)
        if re.fullmatch(rf"{head}\n{body}", text):
            return True
    return False


def first_wrong_line(text, forms):
    """The number of the first line that breaks its form, or None."""
    lines = text.split("\n")
    for count in range(1, len(lines) + 1):
        if not may_begin(lines[:count], forms):
            return count
    if lines[0].startswith("round") and not lines[-1].startswith("turn"):
        return len(lines) + 1
    return None


def rows_of(text, word):
    return [line.split(" ")[1:] for line in text.split("\n") if line.split(" ")[0] == word]


def play_of(text, word):
    return [(kind, name) for kind, name in rows_of(text, word)]


def state_of(bits, fuse):
    return (tuple(bit == "1" for bit in bits if bit != "-"), fuse == "blown")


def is_state(board, state):
    return len(state[0]) == len(board.movers) and (state[1] or not naive.short(board, state[0]))


def end_of(board, state, play, hurry):
    """The state behind the moves, or None if one of them cannot be made."""
    for move in play:
        if move not in board.moves(state, hurry):
            return None
        state = board.step(state, move[1])
    return state


def is_round(board, text, hurry):
    state = end_of(board, board.start, play_of(text, "go"), hurry)
    return state is not None and end_of(board, state, play_of(text, "turn"), hurry) == state


def is_falling(rows, start, behind):
    """True if the list of tuples of something and a number fulfils what points 40 and 53 ask in common."""
    if start not in [item for item, _ in rows]:
        return False
    for item, number in rows:
        for move, after in behind(item):
            numbers = [other for found, other in rows if found == after]
            if not numbers or move[0] != "hand" and min(numbers) >= number:
                return False
    return True


def is_right(board, text):
    """True if the certificate is right for the board (a Slow one)."""
    hurry = int(text.split("\n")[0].split(" ")[1])
    if text.startswith("round"):
        return is_round(board, text, hurry)
    rows = [(state_of(bits, fuse), int(number)) for bits, fuse, number in rows_of(text, "state")]
    if not all(is_state(board.board, state) for state, _ in rows):
        return False
    return is_falling(rows, board.start, lambda state: board.behind(state, hurry))


def is_right_for_both(one, other, text):
    head = text.split("\n")[0].split(" ")
    hurry = int(head[1])
    if head[0] == "round":
        return is_round(one if head[2] == "one" else other, text, hurry)
    if head[0] == "part":
        return is_part(one, other, text, hurry)
    rows = []
    for bits, fuse, others, other_fuse, number in rows_of(text, "pair"):
        rows.append(((state_of(bits, fuse), state_of(others, other_fuse)), int(number)))
    for (first, second), _ in rows:
        if not is_state(one.board, first) or not is_state(other.board, second):
            return False
        if one.rests(first) and other.rests(second) and one.show(first) != other.show(second):
            return False

    def behind(pair):
        moves = slow.joint_moves(one, other, pair, hurry)
        return [(move, slow.joint_step(one, other, pair, move)) for move in moves]

    return is_falling(rows, (one.start, other.start), behind)


def is_part(one, other, text, hurry):
    plays = [play_of(text, "first"), play_of(text, "second")]
    ends = [end_of(board, board.start, play, hurry) for board, play in zip((one, other), plays)]
    if None in ends or not one.rests(ends[0]) or not other.rests(ends[1]):
        return False
    hands = [[name for kind, name in play if kind == "hand"] for play in plays]
    return hands[0] == hands[1] and one.show(ends[0]) != other.show(ends[1])


def words_of(state):
    bits = "".join("1" if on else "0" for on in state[0]) or "-"
    return f"{bits} {'blown' if state[1] else 'whole'}"


def move_lines(word, play):
    return [f"{word} {kind} {name}" for kind, name in play]


def settling_certificate(board, hurry):
    found = board.trouble([board.start], hurry)
    if found is not None:
        return "\n".join([f"round {hurry}", *move_lines("go", found[0]), *move_lines("turn", found[1])])
    lines = [f"settles {hurry}"]
    for state in board.reached([board.start], hurry):
        lines.append(f"state {words_of(state)} {board.longest(state)}")
    return "\n".join(lines)


def agreement_certificate(one, other, hurry):
    found = slow.agree(one, other, hurry)
    if found is None:
        lines = [f"agree {hurry}"]
        for first, second in slow.reached_pairs(one, other, [(one.start, other.start)], hurry):
            number = one.longest(first) + other.longest(second)
            lines.append(f"pair {words_of(first)} {words_of(second)} {number}")
        return "\n".join(lines)
    if found[0] in ("one", "other"):
        lines = [*move_lines("go", found[1]), *move_lines("turn", found[2])]
        return "\n".join([f"round {hurry} {found[0]}", *lines])
    return "\n".join([f"part {hurry}", *move_lines("first", found[0]), *move_lines("second", found[1])])
