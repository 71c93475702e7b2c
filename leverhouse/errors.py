"""The errors that the program raises."""


class LeverhouseError(ValueError):
    """The base class of all errors of the program."""


class InvalidBoard(LeverhouseError):
    """The parts of a board break a rule."""


class InvalidState(LeverhouseError):
    """A state is none of its board."""


class DifferentFaces(LeverhouseError):
    """Two boards do not have the same face."""


class NotDeterminate(LeverhouseError):
    """What a board shows at rest depends on the order of moves."""


class InvalidQuestion(LeverhouseError):
    """A question has another number of boards than its word."""


class NothingToUndo(LeverhouseError):
    """There is no change to take back."""


class NothingToRedo(LeverhouseError):
    """There is no change to make again."""


class UnknownName(LeverhouseError):
    """There is nothing of this name where one is asked for."""

    def __init__(self, name):
        super().__init__(f"unknown name: {name}")
        self.name = name


class UnknownNumber(LeverhouseError):
    """There is no contact of this number."""

    def __init__(self, number):
        super().__init__(f"unknown number: {number}")
        self.number = number


class InvalidNotation(LeverhouseError):
    """A text is not the written form of anything; the line is counted from 1."""

    def __init__(self, line):
        super().__init__(f"invalid notation in line {line}")
        self.line = line


class InvalidPlay(LeverhouseError):
    """A move or an event cannot be made; its number is counted from 0."""

    def __init__(self, number):
        super().__init__(f"invalid play at number {number}")
        self.number = number


class TooMany(LeverhouseError):
    """More is counted than the limit allows."""

    def __init__(self, limit):
        super().__init__(f"more than {limit} were counted")
        self.limit = limit


class InvalidCertificate(LeverhouseError):
    """A text has no form of a certificate; the line is counted from 1."""

    def __init__(self, line):
        super().__init__(f"invalid certificate in line {line}")
        self.line = line


class InvalidTiming(LeverhouseError):
    """A relay has a delay that is too small or too great; its number is counted from 0."""

    def __init__(self, number):
        super().__init__(f"invalid delay of the relay with number {number}")
        self.number = number


class NameInUse(LeverhouseError):
    """A board cannot be removed because a question names it."""

    def __init__(self, name):
        super().__init__(f"name in use: {name}")
        self.name = name
