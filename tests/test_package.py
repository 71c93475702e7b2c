import ast
import importlib
import inspect
import unittest
from pathlib import Path

import leverhouse

FOLDER = Path(leverhouse.__file__).parent
# Modules that only compute.
HARMLESS = {"heapq", "math", "itertools", "collections", "__future__"}
REACHING_OUT = {"open", "input", "print", "exec", "eval", "compile", "__import__", "id", "hash"}

INTERFACE = {
    "errors": (
        "LeverhouseError InvalidBoard InvalidState DifferentFaces NotDeterminate InvalidQuestion "
        "NothingToUndo NothingToRedo UnknownName UnknownNumber InvalidNotation InvalidPlay TooMany "
        "InvalidCertificate InvalidTiming NameInUse"
    ),
    "boards": "Board same_face check_faces",
    "notation": "format_board parse_board",
    "current": "closes closed_contacts is_closed fed feeds is_short live_relays live_lamps",
    "plays": (
        "Outcome check_state first_state due is_rest can_move step show walk run switching_of "
        "play_text parse_play"
    ),
    "search": "moves Search explore explore_from all_states first_play rounds_of",
    "settling": "Round Longest round_from settles ranks check_ranks",
    "pairs": "first_pair joint_moves joint_step split_play all_pairs",
    "agree": "Unsettled Parting agree agreement check_agreement",
    "races": "race is_determinate least_race greatest_hurry",
    "ends": "possible_states rest_states rest_shows",
    "shows": "never all_shows first_short Flash first_flash flashes",
    "uses": "one_way use_of uses",
    "howto": "show_at_rest how_to way_back",
    "changes": "LateRound LateParting changed_state change",
    "delays": "Delays TimedRun timed_run pulses lit_time shown_at first_difference",
    "faults": "Seen Restless all_faults faulty fault_verdict shown_by suspects",
    "suites": "seen_faults suite check_suite",
    "certificates": "settling_certificate agreement_certificate check_settling check_agreeing",
    "tidy": "Tidied tidy without_relay idle_relays check_tidied",
    "bench": "Workbench decide",
    "commands": "split_words is_number is_command",
    "session": "Session",
}
METHODS = {
    ("boards", "Board"): (
        "is_name plus minus movers mover_number is_switch contacts_of contacts_at wires "
        "replace_contact insert_contact without_contact"
    ),
    ("plays", "Outcome"): "at_rest",
    ("search", "Search"): "holds start_of play_to",
    ("delays", "Delays"): "delay",
    ("delays", "TimedRun"): "plain",
    ("bench", "Workbench"): (
        "set_board remove_board replace_contact insert_contact remove_contact ask drop undo redo "
        "change_all board_names question_names board question answer answers"
    ),
    ("session", "Session"): "run",
}
METHOD_PARAMETERS = {
    ("boards", "Board"): {
        "is_name": "text",
        "mover_number": "name",
        "is_switch": "name",
        "contacts_of": "name",
        "contacts_at": "node",
        "wires": "",
        "replace_contact": "number contact",
        "insert_contact": "number contact",
        "without_contact": "number",
    },
    ("search", "Search"): {"holds": "state", "start_of": "state", "play_to": "state"},
    ("delays", "Delays"): {"delay": "state number"},
    ("delays", "TimedRun"): {"plain": ""},
    ("bench", "Workbench"): {
        "set_board": "name board",
        "remove_board": "name",
        "replace_contact": "name number contact",
        "insert_contact": "name number contact",
        "remove_contact": "name number",
        "ask": "name * word boards hurry",
        "drop": "name",
        "undo": "",
        "redo": "",
        "change_all": "changes",
        "board_names": "",
        "question_names": "",
        "board": "name",
        "question": "name",
        "answer": "name",
        "answers": "",
    },
    ("session", "Session"): {"run": "text"},
}
PARAMETERS = {
    "boards": {"same_face": "one other", "check_faces": "one other"},
    "notation": {"format_board": "board", "parse_board": "text"},
    "current": {
        "closes": "contact on",
        "closed_contacts": "board state",
        "is_closed": "board state number",
        "fed": "board state",
        "feeds": "board state",
        "is_short": "board state",
        "live_relays": "board state",
        "live_lamps": "board state",
    },
    "plays": {
        "Outcome": "state due show",
        "check_state": "board state",
        "first_state": "board",
        "due": "board state",
        "is_rest": "board state",
        "can_move": "board state move * hurry",
        "step": "board state move",
        "show": "board state",
        "walk": "board play * hurry",
        "run": "board play * hurry",
        "switching_of": "play",
        "play_text": "play",
        "parse_play": "text",
    },
    "search": {
        "moves": "board state * hurry",
        "explore": "board * hurry limit",
        "explore_from": "board starts * hurry limit",
        "all_states": "board * hurry limit",
        "first_play": "board states * hurry limit",
        "rounds_of": "board * hurry limit",
    },
    "settling": {
        "Round": "play moves",
        "Longest": "play count",
        "round_from": "board state",
        "settles": "board * hurry limit",
        "ranks": "board * hurry limit",
        "check_ranks": "board table * hurry",
    },
    "pairs": {
        "first_pair": "one other",
        "joint_moves": "one other pair * hurry",
        "joint_step": "one other pair move",
        "split_play": "play",
        "all_pairs": "one other * hurry limit",
    },
    "agree": {
        "Unsettled": "which play moves",
        "Parting": "first second shows",
        "agree": "one other * hurry limit",
        "agreement": "one other * hurry limit",
        "check_agreement": "one other entries * hurry",
    },
    "races": {
        "race": "board * hurry limit",
        "is_determinate": "board * hurry limit",
        "least_race": "board * limit",
        "greatest_hurry": "board * limit",
    },
    "ends": {
        "possible_states": "board switching * hurry limit",
        "rest_states": "board switching * hurry limit",
        "rest_shows": "board switching * hurry limit",
    },
    "shows": {
        "never": "board * on off rest hurry limit",
        "all_shows": "board * rest hurry limit",
        "first_short": "board * hurry limit",
        "Flash": "lamp play hand",
        "first_flash": "board lamp * limit",
        "flashes": "board * limit",
    },
    "uses": {
        "one_way": "board number * back",
        "use_of": "board number * hurry limit",
        "uses": "board * hurry limit",
    },
    "howto": {
        "show_at_rest": "board switching * hurry limit",
        "how_to": "board on * hurry limit",
        "way_back": "board switching * hurry limit",
    },
    "changes": {
        "LateRound": "before play moves",
        "LateParting": "before first second shows",
        "changed_state": "one other state",
        "change": "one other * hurry limit",
    },
    "delays": {
        "Delays": "board * up down",
        "TimedRun": "until moves shows state rest",
        "timed_run": "delays events * until",
        "pulses": "run lamp",
        "lit_time": "run lamp",
        "shown_at": "run instant",
        "first_difference": "one other",
    },
    "faults": {
        "Seen": "switching shows",
        "Restless": "play moves",
        "all_faults": "board",
        "faulty": "board fault",
        "fault_verdict": "board fault * hurry limit",
        "shown_by": "board fault switching * hurry limit",
        "suspects": "board faults switching shown * hurry limit",
    },
    "suites": {
        "seen_faults": "board faults * hurry limit",
        "suite": "board faults * hurry limit",
        "check_suite": "board faults switchings * hurry limit",
    },
    "certificates": {
        "settling_certificate": "board * hurry limit",
        "agreement_certificate": "one other * hurry limit",
        "check_settling": "board text",
        "check_agreeing": "one other text",
    },
    "tidy": {
        "Tidied": "board removed",
        "tidy": "board * hurry limit",
        "without_relay": "board name",
        "idle_relays": "board * hurry limit",
        "check_tidied": "board tidied * hurry limit",
    },
    "bench": {"Workbench": "", "decide": "word boards * hurry limit"},
    "commands": {"split_words": "line", "is_number": "word", "is_command": "words"},
    "session": {"Session": ""},
}


def module_of(name):
    return importlib.import_module(f"leverhouse.{name}")


def told_parameters(function):
    words = []
    for parameter in inspect.signature(function).parameters.values():
        if parameter.kind == inspect.Parameter.KEYWORD_ONLY and "*" not in words:
            words.append("*")
        words.append(parameter.name)
    return " ".join(words)


class TestPackage(unittest.TestCase):
    def test_it_defines_nothing_itself(self):
        tree = ast.parse((FOLDER / "__init__.py").read_text(encoding="utf-8"))
        told = [node for node in tree.body if not isinstance(node, ast.Expr)]
        self.assertEqual(told, [])

    def test_names_are_defined_where_they_are_listed(self):
        for name, words in INTERFACE.items():
            for word in words.split():
                with self.subTest(name=name, word=word):
                    self.assertEqual(getattr(module_of(name), word).__module__, f"leverhouse.{name}")

    def test_methods_are_defined_in_their_class(self):
        for (name, word), methods in METHODS.items():
            for method in methods.split():
                with self.subTest(word=word, method=method):
                    self.assertIn(method, vars(getattr(module_of(name), word)))

    def test_parameters(self):
        for name, functions in PARAMETERS.items():
            for word, told in functions.items():
                with self.subTest(name=name, word=word):
                    self.assertEqual(told_parameters(getattr(module_of(name), word)), told)

    def test_parameters_of_methods(self):
        for (name, word), methods in METHOD_PARAMETERS.items():
            for method, told in methods.items():
                with self.subTest(word=word, method=method):
                    words = told_parameters(getattr(getattr(module_of(name), word), method)).split()
                    own = [] if method == "is_name" else ["self"]
                    self.assertEqual(words, own + told.split())

    def test_no_clock_no_random_numbers_no_files(self):
        for path in sorted(FOLDER.rglob("*.py")):
            for node in ast.walk(ast.parse(path.read_text(encoding="utf-8"))):
                with self.subTest(file=path.name, line=getattr(node, "lineno", 0)):
                    if isinstance(node, ast.Import):
                        self.fail("imports a module")
                    if isinstance(node, ast.ImportFrom):
                        self.assertIn(node.module.split(".")[0], {"leverhouse"} | HARMLESS)
                    if isinstance(node, ast.Name):
                        self.assertNotIn(node.id, REACHING_OUT)


if __name__ == "__main__":
    unittest.main()
