"""Sessions done again with patterns for the lines, to compare the program with."""

import re

from leverhouse.bench import Workbench
from leverhouse.errors import (
    InvalidBoard,
    InvalidNotation,
    InvalidQuestion,
    LeverhouseError,
    NameInUse,
    NothingToRedo,
    NothingToUndo,
    UnknownName,
    UnknownNumber,
)
from leverhouse.notation import format_board, parse_board

PARTS = {
    "NAME": "([a-z0-9]{1,12})",
    "NUMBER": "(0|[1-9][0-9]{0,3})",
    "HURRY": "([0-8])",
    "MOVER": "([a-z0-9]{1,12}|-)",
    "WHEN": "(make|break)",
    "WAY": "(both|forward)",
    "BOARDS": "([a-z0-9]{1,12}(?: [a-z0-9]{1,12})*)",
}
COMMANDS = [
    "board NAME",
    "replace NAME NUMBER NAME NAME MOVER WHEN WAY",
    "insert NAME NUMBER NAME NAME MOVER WHEN WAY",
    "cut NAME NUMBER",
    "ask NAME NAME HURRY BOARDS",
    "drop NAME",
    "remove NAME",
    "undo",
    "redo",
    "answer NAME",
    "answers",
    "show boards",
    "show questions",
    "print NAME",
]


def pattern_of(command):
    return re.compile(" ".join(PARTS.get(word, word) for word in command.split()), re.ASCII)


PATTERNS = {command: pattern_of(command) for command in COMMANDS}


def parts_of_line(line):
    """The command that the line is, and its other parts, or None."""
    for command, pattern in PATTERNS.items():
        found = pattern.fullmatch(line)
        if found:
            return command, found.groups()
    return None


class SlowSession:
    def __init__(self):
        self.bench = Workbench()
        self.name = None
        self.lines = []

    def run(self, text):
        answers = []
        for number, row in enumerate(text.split("\n")):
            line = re.sub(" +", " ", row).strip(" ")
            if line == "":
                continue
            try:
                answers += self.take(line) if self.name is not None else self.do(line)
            except LeverhouseError as error:
                answers.append(f"line {number + 1}: {reason(error)}")
            except SyntaxError:
                answers.append(f"line {number + 1}: invalid command")
        return answers

    def take(self, line):
        if line != "end":
            self.lines.append(line)
            return []
        name, lines = self.name, self.lines
        self.name, self.lines = None, []
        self.bench.set_board(name, parse_board("\n".join(lines)))
        return ["ok"]

    def do(self, line):
        found = parts_of_line(line)
        if found is None:
            raise SyntaxError
        command, parts = found
        if command.startswith("board"):
            self.name = parts[0]
            return ["ok"]
        if command in ("undo", "redo"):
            getattr(self.bench, command)()
            return ["ok"]
        if command.startswith(("answer", "show", "print")):
            return self.told(command, parts)
        self.change(line.split()[0], parts)
        return ["ok"]

    def change(self, first, parts):
        if first == "ask":
            name, word, hurry, boards = parts
            self.bench.ask(name, word=word, boards=boards.split(), hurry=int(hurry))
        elif first == "drop":
            self.bench.drop(*parts)
        elif first == "remove":
            self.bench.remove_board(*parts)
        elif first == "cut":
            self.bench.remove_contact(parts[0], int(parts[1]))
        else:
            one, other, mover, when, way = parts[2:]
            contact = (one, other, mover if mover != "-" else None, when, way)
            getattr(self.bench, f"{first}_contact")(parts[0], int(parts[1]), contact)

    def told(self, command, parts):
        if command == "answers":
            return [line_of(name, answer) for name, answer in self.bench.answers()]
        if command == "show boards":
            return [line_of("boards", self.bench.board_names())]
        if command == "show questions":
            return [line_of("questions", self.bench.question_names())]
        if command.startswith("answer"):
            return [line_of(parts[0], self.bench.answer(parts[0]))]
        return format_board(self.bench.board(parts[0])).split("\n")


def line_of(name, parts):
    line = name + ":"
    for part in parts:
        line += f" {part}"
    return line


def reason(error):
    """What a line tells of the error."""
    if isinstance(error, UnknownName):
        return f"unknown name {error.name}"
    if isinstance(error, UnknownNumber):
        return f"unknown number {error.number}"
    if isinstance(error, NameInUse):
        return f"name in use {error.name}"
    if isinstance(error, InvalidNotation):
        return f"invalid board {error.line}"
    return {
        InvalidBoard: "invalid contact",
        InvalidQuestion: "invalid question",
        NothingToUndo: "nothing to undo",
        NothingToRedo: "nothing to redo",
    }[type(error)]
