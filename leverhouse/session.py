"""A workbench that is used by lines of text (points 129 to 133)."""

from leverhouse.bench import Workbench
from leverhouse.commands import is_command, split_words
from leverhouse.errors import (
    InvalidBoard,
    InvalidNotation,
    InvalidQuestion,
    NameInUse,
    NothingToRedo,
    NothingToUndo,
    UnknownName,
    UnknownNumber,
)
from leverhouse.notation import WIRE, format_board, parse_board


class Session:
    """A workbench and the block of a board that may be open."""

    def __init__(self):
        self.bench = Workbench()
        # The name of the board whose block is open, or None, and the lines that were taken.
        self._block = None
        self._taken = []

    def run(self, text):
        """Does the lines of the text; the lines that they answer."""
        told = []
        for number, line in enumerate(text.split("\n"), start=1):
            words = split_words(line)
            if words:
                told += self._answer_line(number, words)
        return told

    def _answer_line(self, number, words):
        if self._block is None and not is_command(words):
            return [f"line {number}: invalid command"]
        try:
            return self._do(words)
        except UnknownName as unknown:
            reason = f"unknown name {unknown.name}"
        except UnknownNumber as strange:
            reason = f"unknown number {strange.number}"
        except NameInUse as needed:
            reason = f"name in use {needed.name}"
        except InvalidNotation as wrong:
            reason = f"invalid board {wrong.line}"
        except InvalidBoard:
            reason = "invalid contact"
        except InvalidQuestion:
            reason = "invalid question"
        except NothingToUndo:
            reason = "nothing to undo"
        except NothingToRedo:
            reason = "nothing to redo"
        return [f"line {number}: {reason}"]

    def _do(self, words):
        """Does a line of the open block, or a command; the lines that it answers."""
        if self._block is not None:
            return self._take(words)
        if words[0] in ("answer", "answers", "show", "print"):
            return self._tell(words)
        self._change(words)
        return ["ok"]

    def _take(self, words):
        """Takes a line of the open block, or closes the block."""
        if words != ["end"]:
            self._taken.append(" ".join(words))
            return []
        name = self._block
        # The block is closed even if its lines are no written form.
        self._block = None
        self.bench.set_board(name, parse_board("\n".join(self._taken)))
        return ["ok"]

    def _change(self, words):
        """Does a command that changes something, or opens a block."""
        match words:
            case ["board", name]:
                self._block = name
                self._taken = []
            case ["replace", name, number, *contact]:
                self.bench.replace_contact(name, int(number), _contact(contact))
            case ["insert", name, number, *contact]:
                self.bench.insert_contact(name, int(number), _contact(contact))
            case ["cut", name, number]:
                self.bench.remove_contact(name, int(number))
            case ["ask", name, word, hurry, *boards]:
                self.bench.ask(name, word=word, boards=boards, hurry=int(hurry))
            case ["drop", name]:
                self.bench.drop(name)
            case ["remove", name]:
                self.bench.remove_board(name)
            case ["undo"]:
                self.bench.undo()
            case ["redo"]:
                self.bench.redo()

    def _tell(self, words):
        """The lines that a command answers which changes nothing."""
        match words:
            case ["answer", name]:
                return [_line(name, self.bench.answer(name))]
            case ["answers"]:
                return [_line(asked, answer) for asked, answer in self.bench.answers()]
            case ["show", "boards"]:
                return [_line("boards", self.bench.board_names())]
            case ["show", "questions"]:
                return [_line("questions", self.bench.question_names())]
            case ["print", name]:
                return format_board(self.bench.board(name)).split("\n")


def _contact(words):
    one, other, mover, when, way = words
    return (one, other, None if mover == WIRE else mover, when, way)


def _line(name, parts):
    """A line of a name, a colon, and the parts behind it."""
    return " ".join([f"{name}:", *[str(part) for part in parts]])
