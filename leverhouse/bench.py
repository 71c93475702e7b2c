"""Boards and questions that are kept under names (points 123 to 128)."""

from leverhouse.agree import Unsettled, agree
from leverhouse.boards import check_names
from leverhouse.changes import LateRound, change
from leverhouse.errors import (
    DifferentFaces,
    InvalidQuestion,
    LeverhouseError,
    NameInUse,
    NothingToRedo,
    NothingToUndo,
    TooMany,
    UnknownName,
)
from leverhouse.races import race
from leverhouse.search import LIMIT
from leverhouse.settling import Longest, settles

# For each word of a question, how many boards it is about.
BOARDS_OF_WORDS = {"settles": 1, "races": 1, "agrees": 2, "changes": 2}


class Edit:
    """What one change puts under a name of a table, and what was there before; None is nothing."""

    def __init__(self, table, name, after):
        self._table = table
        self._name = name
        self._before = table.get(name)
        self._after = after

    def make(self):
        """Makes the change, for the first time or again."""
        self._put(self._after)

    def take_back(self):
        """Brings back what was there before."""
        self._put(self._before)

    def _put(self, worth):
        if worth is None:
            del self._table[self._name]
        else:
            self._table[self._name] = worth


class Workbench:
    """Boards and questions, and the changes that made them what they are."""

    def __init__(self):
        self.decided = 0
        self.kept = 0
        # Each entry is a board with a number that no other entry has.
        self._entries = {}
        self._entry_count = 0
        self._questions = {}
        self._made = []
        self._taken_back = []
        self._known_answers = {}

    def set_board(self, name, board):
        """Defines the board under the name."""
        self._entry_count += 1
        self._do(Edit(self._entries, name, (self._entry_count, board)))

    def remove_board(self, name):
        """Removes the board of the name."""
        check_names([name], self._entries)
        for _, names, _ in self._questions.values():
            if name in names:
                raise NameInUse(name)
        self._do(Edit(self._entries, name, None))

    def replace_contact(self, name, number, contact):
        """Defines the board anew, with this contact in the place of the one of this number."""
        self.set_board(name, self.board(name).replace_contact(number, contact))

    def insert_contact(self, name, number, contact):
        """Defines the board anew, with one contact more."""
        self.set_board(name, self.board(name).insert_contact(number, contact))

    def remove_contact(self, name, number):
        """Defines the board anew, without the contact of this number."""
        self.set_board(name, self.board(name).without_contact(number))

    def ask(self, name, *, word, boards, hurry=0):
        """Defines the question under the name."""
        if word not in BOARDS_OF_WORDS:
            raise UnknownName(word)
        if len(boards) != BOARDS_OF_WORDS[word]:
            raise InvalidQuestion(f"{len(boards)} boards for the word {word}")
        check_names(boards, self._entries)
        self._do(Edit(self._questions, name, (word, tuple(boards), hurry)))

    def drop(self, name):
        """Removes the question of the name."""
        check_names([name], self._questions)
        self._do(Edit(self._questions, name, None))

    def undo(self):
        """Takes back the last change that is not taken back."""
        if not self._made:
            raise NothingToUndo("there is no change to take back")
        edit = self._made.pop()
        edit.take_back()
        self._taken_back.append(edit)

    def redo(self):
        """Makes the change again that was taken back last."""
        if not self._taken_back:
            raise NothingToRedo("there is no change to make again")
        edit = self._taken_back.pop()
        edit.make()
        self._made.append(edit)

    def change_all(self, changes):
        """Makes all of the changes, or none of them if one raises an error."""
        count = len(self._made)
        taken_back = self._taken_back
        try:
            for parts in changes:
                self._make(parts)
        except LeverhouseError:
            while len(self._made) > count:
                self._made.pop().take_back()
            self._taken_back = taken_back
            raise

    def board_names(self):
        """The names of the boards, in ascending order."""
        return sorted(self._entries)

    def question_names(self):
        """The names of the questions, in ascending order."""
        return sorted(self._questions)

    def board(self, name):
        """The board of the name."""
        check_names([name], self._entries)
        return self._entries[name][1]

    def question(self, name):
        """The word, the names of the boards and the hurry of the question."""
        check_names([name], self._questions)
        return self._questions[name]

    def answer(self, name):
        """The answer of the question, which is computed only if it is not known yet."""
        word, names, hurry = self.question(name)
        entries = [self._entries[board_name] for board_name in names]
        key = (word, tuple([number for number, _ in entries]), hurry)
        if key in self._known_answers:
            self.kept += 1
        else:
            self._known_answers[key] = decide(word, [board for _, board in entries], hurry=hurry)
            self.decided += 1
        return self._known_answers[key]

    def answers(self):
        """The names of all questions, in ascending order, with their answers."""
        return [(name, self.answer(name)) for name in self.question_names()]

    def _make(self, parts):
        """Makes the change that a tuple of change_all tells."""
        match parts:
            case ["set_board", name, board]:
                self.set_board(name, board)
            case ["remove_board", name]:
                self.remove_board(name)
            case ["replace_contact", name, number, contact]:
                self.replace_contact(name, number, contact)
            case ["insert_contact", name, number, contact]:
                self.insert_contact(name, number, contact)
            case ["remove_contact", name, number]:
                self.remove_contact(name, number)
            case ["ask", name, word, boards, hurry]:
                self.ask(name, word=word, boards=boards, hurry=hurry)
            case ["drop", name]:
                self.drop(name)

    def _do(self, edit):
        edit.make()
        self._made.append(edit)
        # A new list, for change_all may have to bring the old one back.
        self._taken_back = []


def decide(word, boards, *, hurry=0, limit=LIMIT):
    """The answer for a word and its boards."""
    try:
        return _answer(word, boards, hurry, limit)
    except TooMany:
        return ("many", limit)
    except DifferentFaces:
        return ("faces",)


def _answer(word, boards, hurry, limit):
    if word == "settles":
        return _told_settling(settles(boards[0], hurry=hurry, limit=limit))
    if word == "races":
        return _told_race(race(boards[0], hurry=hurry, limit=limit))
    if word == "agrees":
        return _told_agreement(agree(boards[0], boards[1], hurry=hurry, limit=limit))
    return _told_change(change(boards[0], boards[1], hurry=hurry, limit=limit))


def _told_settling(found):
    if isinstance(found, Longest):
        return ("settles", found.count)
    return ("buzzes", len(found.play), len(found.moves))


def _told_race(found):
    if found is None:
        return ("determinate",)
    if isinstance(found, Unsettled):
        return ("buzzes", len(found.play), len(found.moves))
    return ("races", len(found.first), len(found.second))


def _told_agreement(found):
    if found is None:
        return ("agrees",)
    if isinstance(found, Unsettled):
        return ("unsettled", found.which, len(found.play), len(found.moves))
    return ("parts", len(found.first), len(found.second))


def _told_change(found):
    if found is None:
        return ("unseen",)
    if isinstance(found, Unsettled):
        return ("unsettled", found.which, len(found.play), len(found.moves))
    if isinstance(found, LateRound):
        return ("round", len(found.before), len(found.play), len(found.moves))
    return ("seen", len(found.before), len(found.first), len(found.second))
