import unittest

from leverhouse.commands import is_command, is_number, split_words

NUMBERS = ["0", "1", "7", "9", "10", "42", "99", "100", "640", "999", "1000", "4096", "9999"]
NOT_NUMBERS = [
    "", "00", "01", "007", "0000", "0123", "10000", "99999", "123456789", "-", "-1", "+1", "1.0", "1a",
    "a", "a1", "1 ", " 1", "1 2", "1_0", "0x1", "1\n", "\t1", "\u0661", "\u00b2", "\u0967", "1\u00b9",
]
NAMES = ["a", "z", "0", "9", "b2", "2b", "7", "board", "both", "abcdefghijkl", "012345678901"]
NOT_NAMES = ["", "A", "bA", "a-b", "-", "a_b", "a.b", "a:", "abcdefghijklm", "0123456789012", "\u00e4", "a\t"]
HURRIES = ["0", "1", "2", "3", "4", "5", "6", "7", "8"]
NOT_HURRIES = ["9", "10", "00", "08", "80", "88", "-", "-1", "", "a", "8a", "\u0668", "\u00b2"]
WHENS = ["make", "break"]
NOT_WHENS = ["", "makes", "brake", "Make", "both", "forward", "-", "mak", "m"]
WAYS = ["both", "forward"]
NOT_WAYS = ["", "back", "Both", "forwards", "make", "break", "-", "bot"]
MOVERS = [*NAMES, "-"]
NOT_MOVERS = [name for name in NOT_NAMES if name != "-"] + ["--", "-a"]
TABLES = ["boards", "questions"]
NOT_TABLES = ["", "board", "question", "Boards", "answers", "names", "-", "b"]

# For each kind of word, words of the kind and words that are not.
KINDS = {
    "name": (NAMES, NOT_NAMES),
    "number": (NUMBERS, NOT_NUMBERS),
    "hurry": (HURRIES, NOT_HURRIES),
    "mover": (MOVERS, NOT_MOVERS),
    "when": (WHENS, NOT_WHENS),
    "way": (WAYS, NOT_WAYS),
    "table": (TABLES, NOT_TABLES),
}
CONTACT = ["name", "number", "name", "name", "mover", "when", "way"]
FORMS = {
    "board": ["name"],
    "replace": CONTACT,
    "insert": CONTACT,
    "cut": ["name", "number"],
    "ask": ["name", "name", "hurry", "name"],
    "drop": ["name"],
    "remove": ["name"],
    "undo": [],
    "redo": [],
    "answer": ["name"],
    "answers": [],
    "show": ["table"],
    "print": ["name"],
}


def plain(form):
    """Words of these kinds, each of them the first one of its kind."""
    return [KINDS[kind][0][0] for kind in form]


class TestSplitWords(unittest.TestCase):
    def check(self, line, words):
        found = split_words(line)
        self.assertEqual((found, type(found)), (words, list))

    def test_blanks(self):
        self.check("undo", ["undo"])
        self.check("cut b 1", ["cut", "b", "1"])
        self.check("   cut b 1", ["cut", "b", "1"])
        self.check("cut b 1    ", ["cut", "b", "1"])
        self.check("  cut   b  1 ", ["cut", "b", "1"])

    def test_lines_without_words(self):
        for line in ("", " ", "      "):
            self.check(line, [])

    def test_all_other_characters_belong_to_words(self):
        self.check("a\tb", ["a\tb"])
        self.check("\t", ["\t"])
        self.check(" \t  a", ["\t", "a"])
        self.check("cut b 1\r", ["cut", "b", "1\r"])
        self.check("a\u00a0b \u3000 \x0b", ["a\u00a0b", "\u3000", "\x0b"])
        self.check("\x1f\x1c a\u2003", ["\x1f\x1c", "a\u2003"])
        self.check("A_b: -7, 'c'", ["A_b:", "-7,", "'c'"])

    def test_the_result_is_new(self):
        split_words("a b").clear()
        self.check("a b", ["a", "b"])


class TestIsNumber(unittest.TestCase):
    def test_numbers(self):
        for word in NUMBERS:
            with self.subTest(word=word):
                self.assertIs(is_number(word), True)
        for number in range(10000):
            self.assertIs(is_number(str(number)), True)

    def test_others(self):
        for word in NOT_NUMBERS:
            with self.subTest(word=word):
                self.assertIs(is_number(word), False)
        for number in range(1000):
            self.assertIs(is_number(f"0{number}"), False)
            self.assertIs(is_number(str(number + 10000)), False)


class TestIsCommand(unittest.TestCase):
    def check(self, words, expected):
        before = list(words)
        with self.subTest(words=words):
            self.assertIs(is_command(words), expected)
            self.assertEqual(words, before)

    def test_each_form(self):
        for first, form in FORMS.items():
            self.check([first, *plain(form)], True)

    def test_each_word(self):
        for first, form in FORMS.items():
            for at, kind in enumerate(form):
                words = [first, *plain(form)]
                for right in KINDS[kind][0]:
                    self.check(words[:at + 1] + [right] + words[at + 2:], True)
                for wrong in KINDS[kind][1]:
                    self.check(words[:at + 1] + [wrong] + words[at + 2:], False)

    def test_a_word_less(self):
        for first, form in FORMS.items():
            for at in range(len(form)):
                words = plain(form)
                self.check([first, *words[:at], *words[at + 1:]], False)
            self.check([first, *plain(form)[:-1]], not form)

    def test_a_word_more(self):
        for first, form in FORMS.items():
            for more in ("a", "0", "-", "", "both", "make", "boards"):
                # Behind the boards of a question, names are boards.
                self.check([first, *plain(form), more], first == "ask" and more not in ("-", ""))
                if form:
                    self.check([first, more, *plain(form), more], False)

    def test_the_words_of_a_contact(self):
        for first in ("replace", "insert"):
            self.check([first, "b", "12", "p", "m", "s", "break", "forward"], True)
            self.check([first, "b", "12", "p", "m", "-", "make", "both"], True)
            # That a wire does not break, and that nodes are different, is no question of form.
            self.check([first, "b", "9999", "p", "p", "-", "break", "both"], True)
            self.check([first, "b", "12", "-", "m", "s", "make", "both"], False)
            self.check([first, "b", "12", "p", "-", "s", "make", "both"], False)
            self.check([first, "b", "12", "p", "m", "s", "both", "make"], False)
            self.check([first, "b", "12", "p", "m", "make", "both"], False)
            self.check([first, "-", "12", "p", "m", "s", "make", "both"], False)
            self.check([first, "12", "b", "p", "m", "s", "make", "both"], False)

    def test_questions(self):
        self.check(["ask", "q", "settles", "0", "b"], True)
        self.check(["ask", "q", "agrees", "8", "b", "c"], True)
        self.check(["ask", "q", "agrees", "8", "b", "b"], True)
        self.check(["ask", "q", "changes", "3", *["b"] * 20], True)
        self.check(["ask", "q", "settles", "0"], False)
        self.check(["ask", "q", "settles"], False)
        self.check(["ask"], False)
        self.check(["ask", "q", "settles", "9", "b"], False)
        self.check(["ask", "q", "settles", "b", "0"], False)
        # Each of the boards has to be a name, also a further one.
        for at in (4, 5, 6, 7):
            for wrong in NOT_NAMES:
                words = ["ask", "q", "agrees", "0", "b", "c", "d", "e"]
                words[at] = wrong
                self.check(words, False)

    def test_the_word_of_a_question_is_any_name(self):
        for word in ("settles", "races", "agrees", "changes", "parts", "settle", "0", "b"):
            self.check(["ask", "q", word, "0", "b"], True)
        for word in ("Settles", "-", "", "is-it"):
            self.check(["ask", "q", word, "0", "b"], False)

    def test_other_first_words(self):
        others = "a 0 end Undo UNDO undos und boards question - nodes contact".split()
        for first in ["", *others]:
            self.check([first], False)
            self.check([first, "b"], False)
        for first in FORMS:
            self.check([first.upper(), *plain(FORMS[first])], False)
            self.check([first + "\t", *plain(FORMS[first])], False)

    def test_names_that_are_words_of_commands(self):
        self.check(["board", "end"], True)
        self.check(["board", "board"], True)
        self.check(["ask", "ask", "ask", "0", "ask"], True)
        self.check(["print", "show"], True)

    def test_show(self):
        self.check(["show", "boards"], True)
        self.check(["show", "questions"], True)
        self.check(["show"], False)
        self.check(["show", "answers"], False)
        self.check(["show", "boards", "questions"], False)


if __name__ == "__main__":
    unittest.main()
