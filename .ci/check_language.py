"""Checks the rules of LANGUAGE.md that a script can see, for all files of the package."""

import ast
import builtins
import sys
from pathlib import Path

PACKAGE = Path(__file__).resolve().parent.parent / "leverhouse"
MOST_FUNCTION_LINES = 40
MOST_FILE_LINES = 399
MOST_LINE_LENGTH = 120

LIBRARY = {
    "heapq": "heappush heappop heapify heapreplace heappushpop",
    "math": "gcd lcm isqrt comb perm factorial",
    "itertools": "product combinations permutations chain accumulate pairwise islice zip_longest",
    "collections": "defaultdict",
    "__future__": "annotations",
}
BUILTINS = (
    "len range enumerate zip min max sum abs sorted reversed int str bool bytes list tuple dict set "
    "frozenset isinstance ord repr any all divmod pow getattr hasattr setattr iter next map "
    "super property staticmethod classmethod object float Exception ValueError TypeError KeyError "
    "IndexError LookupError ZeroDivisionError ArithmeticError OverflowError RuntimeError "
    "NotImplementedError AttributeError StopIteration NotImplemented"
).split()
METHODS = (
    "append clear copy count endswith extend find get index insert isalnum isalpha isdigit islower "
    "isspace isupper items join keys ljust lower lstrip partition pop remove replace reverse rfind "
    "rjust rpartition rsplit rstrip setdefault split splitlines startswith strip update upper values "
    "zfill bit_length title capitalize swapcase casefold center expandtabs removeprefix removesuffix "
    "rindex isascii isdecimal isnumeric istitle isidentifier isprintable translate maketrans sort "
    "format add discard encode decode hex from_bytes"
).split()
DECORATORS = ("property", "staticmethod", "classmethod")
BARRED = ("register", "mro", "elements", "open", "input", "law", "version_info")
NOT_ALLOWED = (
    ast.Global,
    ast.AsyncFunctionDef,
    ast.AsyncFor,
    ast.AsyncWith,
    ast.Await,
    ast.Div,
    ast.MatMult,
)


def foreign_methods():
    """The methods of builtin values that L25 does not list."""
    names = set()
    for kind in (str, bytes, int, list, tuple, dict, set, frozenset):
        names.update(name for name in dir(kind) if not name.startswith("_"))
    return names - set(METHODS)


def text_faults(path, text):
    lines = text.split("\n")
    if len(text.splitlines()) > MOST_FILE_LINES:
        yield 1, f"L10: more than {MOST_FILE_LINES} lines"
    for number, line in enumerate(lines, start=1):
        if len(line) > MOST_LINE_LENGTH:
            yield number, f"L10: more than {MOST_LINE_LENGTH} characters"
        if any(not " " <= character <= "~" for character in line):
            yield number, "L14: a character that is none from the space to ~"


def import_faults(node):
    if isinstance(node, ast.Import):
        return "L2: a module is imported"
    words = node.module.split(".")
    names = [alias.name for alias in node.names]
    if node.level or "*" in names:
        return "L2: an import with a dot or a star"
    if words[0] == PACKAGE.name:
        return None
    if set(names) <= set(LIBRARY.get(node.module, "").split()):
        return None
    return f"L2: an import from {node.module}"


def function_faults(node):
    if node.end_lineno - node.lineno + 1 > MOST_FUNCTION_LINES:
        yield f"L10: a function of more than {MOST_FUNCTION_LINES} lines"
    for mark in node.decorator_list:
        is_setter = isinstance(mark, ast.Attribute) and mark.attr == "setter"
        if not is_setter and not (isinstance(mark, ast.Name) and mark.id in DECORATORS):
            yield "L4: a decorator"


def bound_names(node):
    if isinstance(node, ast.Name) and not isinstance(node.ctx, ast.Load):
        yield node.id
    if isinstance(node, ast.arg):
        yield node.arg
    if isinstance(node, ast.ClassDef):
        yield node.name


def name_faults(node):
    for name in bound_names(node):
        if hasattr(builtins, name) or name in BARRED:
            yield f"L15, L17: the name {name} is bound"
    if isinstance(node, ast.Name) and isinstance(node.ctx, ast.Load):
        if hasattr(builtins, node.id) and node.id not in BUILTINS:
            yield f"L8: the builtin {node.id} is used"
    if isinstance(node, ast.Attribute) and node.attr in BARRED:
        yield f"L17: an attribute {node.attr}"


def node_faults(node, foreign):
    if isinstance(node, NOT_ALLOWED):
        yield f"L6, L7: {node.__class__.__name__}"
    if isinstance(node, (ast.Import, ast.ImportFrom)) and import_faults(node):
        yield import_faults(node)
    if isinstance(node, ast.FunctionDef):
        yield from function_faults(node)
    if isinstance(node, ast.ClassDef) and node.decorator_list:
        yield "L5: a decorator over a class"
    if isinstance(node, ast.Constant) and isinstance(node.value, (float, complex)):
        yield "L7: a float"
    if isinstance(node, ast.Constant) and isinstance(node.value, str) and "%" in node.value:
        yield "L27: a string with a percent sign"
    if isinstance(node, ast.Call) and isinstance(node.func, ast.Attribute) and node.func.attr in foreign:
        yield f"L25: the method {node.func.attr}"
    yield from name_faults(node)


def file_faults(path):
    text = path.read_text(encoding="utf-8")
    faults = list(text_faults(path, text))
    foreign = foreign_methods()
    for node in ast.walk(ast.parse(text)):
        faults += [(getattr(node, "lineno", 1), fault) for fault in node_faults(node, foreign)]
    return [f"{path.name}:{line}: {fault}" for line, fault in sorted(faults)]


def package_faults():
    faults = []
    for path in sorted(PACKAGE.rglob("*")):
        if "__pycache__" in path.parts or path.is_dir():
            continue
        if path.suffix != ".py" or path.stem != path.stem.lower() or not path.stem.isidentifier():
            faults.append(f"{path.name}: L1, L14: not a plain lower-case name of a .py file")
            continue
        faults += file_faults(path)
    if not (PACKAGE / "__init__.py").is_file():
        faults.append("L14: there is no __init__.py")
    return faults


if __name__ == "__main__":
    found = package_faults()
    print("\n".join(found) if found else "language: no fault found")
    sys.exit(1 if found else 0)
