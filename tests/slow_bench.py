"""A workbench that keeps a copy of everything before each change, to compare the program with."""

from leverhouse.bench import decide
from leverhouse.errors import (
    InvalidQuestion,
    LeverhouseError,
    NameInUse,
    NothingToRedo,
    NothingToUndo,
    UnknownName,
)
from tests.samples import parts_of

COUNTS = {"settles": 1, "races": 1, "agrees": 2, "changes": 2}


class Entry:
    """A definition of a board; no other one is equal to it."""

    def __init__(self, board):
        self.board = board


class SlowBench:
    """The boards and questions of now are a tuple of two dicts that are never changed."""

    def __init__(self):
        self.now = ({}, {})
        self.past = []
        self.future = []
        self.known = []
        self.decided = 0
        self.kept = 0

    def change(self, parts):
        after = changed(*self.now, parts)
        self.past.append(self.now)
        self.future = []
        self.now = after

    def change_all(self, changes):
        before = (self.now, list(self.past), list(self.future))
        try:
            for parts in changes:
                self.change(parts)
        except LeverhouseError:
            self.now, self.past, self.future = before
            raise

    def undo(self):
        if not self.past:
            raise NothingToUndo("past")
        self.future.append(self.now)
        self.now = self.past.pop()

    def redo(self):
        if not self.future:
            raise NothingToRedo("future")
        self.past.append(self.now)
        self.now = self.future.pop()

    def answer(self, name):
        boards, questions = self.now
        word, names, hurry = found(questions, name)
        entries = [boards[board_name] for board_name in names]
        for answered, answer in self.known:
            if answered == (word, entries, hurry):
                self.kept += 1
                return answer
        self.decided += 1
        answer = decide(word, [entry.board for entry in entries], hurry=hurry)
        self.known.append(((word, entries, hurry), answer))
        return answer


def changed(boards, questions, parts):
    """The boards and questions behind the change."""
    kind, name, *rest = parts
    if kind == "set_board":
        return {**boards, name: Entry(rest[0])}, questions
    if kind == "remove_board":
        found(boards, name)
        if any(name in names for _, names, _ in questions.values()):
            raise NameInUse(name)
        return without(boards, name), questions
    if kind == "drop":
        found(questions, name)
        return boards, without(questions, name)
    if kind == "ask":
        return boards, {**questions, name: asked(boards, *rest)}
    board = found(boards, name).board
    if kind == "replace_contact":
        board = board.replace_contact(*rest)
    if kind == "insert_contact":
        board = board.insert_contact(*rest)
    if kind == "remove_contact":
        board = board.without_contact(*rest)
    return {**boards, name: Entry(board)}, questions


def asked(boards, word, names, hurry):
    if word not in COUNTS:
        raise UnknownName(word)
    if len(names) != COUNTS[word]:
        raise InvalidQuestion("count")
    for name in names:
        found(boards, name)
    return (word, tuple(names), hurry)


def found(table, name):
    if name not in table:
        raise UnknownName(name)
    return table[name]


def without(table, name):
    return {other: worth for other, worth in table.items() if other != name}


def told_now(slow):
    """What is defined, as `told_bench` tells it."""
    boards, questions = slow.now
    rows = [(name, parts_of(boards[name].board)) for name in sorted(boards)]
    return rows, [(name, questions[name]) for name in sorted(questions)]


def told_bench(bench):
    """What is defined on a workbench of the program."""
    boards = [(name, parts_of(bench.board(name))) for name in bench.board_names()]
    return boards, [(name, bench.question(name)) for name in bench.question_names()]


def history(bench):
    """All that undo and redo lead to, and the place in it of what is defined now; nothing is changed."""
    back = times_done(bench.undo, NothingToUndo)
    rows = [told_bench(bench)]
    while times_done(bench.redo, NothingToRedo, most=1):
        rows.append(told_bench(bench))
    for _ in range(len(rows) - 1 - back):
        bench.undo()
    return rows, back


def times_done(action, error, most=1000):
    """How often the action can be done before it raises the error, up to a greatest number."""
    for times in range(most):
        try:
            action()
        except error:
            return times
    return most
