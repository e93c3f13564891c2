"""The names of the package's own files, held against ../shared/LANGUAGE.md: L12, L14, L15, L17, L18, L25, L26."""

import ast
import builtins
import keyword
import pathlib
import re
import unittest

PACKAGE = pathlib.Path(__file__).resolve().parent.parent / "exacttimes"
FILES = sorted(PACKAGE.rglob("*.py"))
TEXTS = [(path.name, path.read_text(encoding="utf-8")) for path in FILES]

PLAIN_NAME = re.compile(r"[A-Za-z][A-Za-z0-9_]*\Z")
PLAIN_FILE = re.compile(r"[a-z][a-z0-9_]*\Z")
TWO_UNDERSCORES = {"__init__", "__eq__", "__repr__", "__str__", "__len__"}
NO_FILES = {"test", "tests", "testing", "site", "conftest", "sitecustomize", "usercustomize"}

NOWHERE = set("register mro elements open input version_info with_traceback add_note format format_map".split())
FRAMES = re.compile(r"(f|tb|co|gi|cr|ag)_[a-z]+\Z")
NOT_AS_NAMES = set(
    "attrgetter breakpoint builtins compile copyright credits delattr dir eval exec exit gc getattr globals"
    " hasattr help id importlib license locals methodcaller os quit setattr super type vars sys __name__".split()
)
WORDS = (
    "type typing typing_extensions enum Enum IntEnum StrEnum Flag IntFlag Generic Protocol ABC ABCMeta namedtuple"
    " NamedTuple TypedDict TYPE_CHECKING abstractmethod".split()
)
PARTS_OF_WORDS = ("dataclass", "overload", "contextmanager")

PYTHONS_NAMES = set(dir(builtins))
PYTHONS_KINDS = (str, int, float, complex, list, tuple, dict, set, frozenset, bytes, bytearray, memoryview, bool)
PYTHONS_ATTRIBUTES = {name for kind in PYTHONS_KINDS for name in dir(kind)} | set(dir(Exception))
PYTHONS_METHODS_TAKEN = set(
    "append clear copy count endswith extend find get index insert isalnum isalpha isdigit islower isspace isupper"
    " items join keys ljust lower lstrip partition pop remove replace reverse rfind rjust rpartition rsplit rstrip"
    " setdefault split splitlines startswith strip update upper values zfill bit_length".split()
)
FREE_FOR_METHODS = PYTHONS_METHODS_TAKEN | {"add", "discard"}
FREE_FOR_VALUES = set("count index title find get join lower upper split strip copy add".split())


def methods_of(node):
    return [part for part in node.body if isinstance(part, ast.FunctionDef)]


class Names(ast.NodeVisitor):
    """Every name of one file, by what it is there."""

    def __init__(self, tree):
        self.top = []
        self.classes = []
        self.imports = []
        self.locals = []
        self.methods = []
        self.values = []
        self.read = []
        self.attributes = []
        self.depth = 0
        self.visit(tree)

    def bind(self, name):
        (self.locals if self.depth else self.top).append(name)

    def visit_ImportFrom(self, node):
        for alias in node.names:
            self.imports.append(alias.asname or alias.name)
            self.top.append(alias.asname or alias.name)

    def visit_ClassDef(self, node):
        self.classes.append(node.name)
        self.top.append(node.name)
        for part in methods_of(node):
            self.methods.append(part.name)
            self.visit_def(part)

    def visit_FunctionDef(self, node):
        self.bind(node.name)
        self.visit_def(node)

    def visit_def(self, node):
        self.depth += 1
        self.generic_visit(node)
        self.depth -= 1

    def visit_Lambda(self, node):
        self.visit_def(node)

    def visit_ListComp(self, node):
        self.visit_def(node)

    def visit_arg(self, node):
        self.locals.append(node.arg)

    def visit_ExceptHandler(self, node):
        if node.name:
            self.bind(node.name)
        self.generic_visit(node)

    def visit_Name(self, node):
        if isinstance(node.ctx, ast.Store):
            self.bind(node.id)
        else:
            self.read.append(node.id)

    def visit_Attribute(self, node):
        self.attributes.append(node.attr)
        if isinstance(node.ctx, ast.Store):
            self.values.append(node.attr)
        self.generic_visit(node)

    def given(self):
        return self.top + self.locals + self.methods + self.values

    def every(self):
        return self.given() + self.read + self.attributes


def names_of(text):
    return Names(ast.parse(text))


def wrong_names(text):
    """What one file's names have against the rules, a text each."""
    names = names_of(text)
    wrong = []
    for name in names.given():
        if name not in TWO_UNDERSCORES and not PLAIN_NAME.match(name):
            wrong.append(f"L12 {name}")
    for name in names.every():
        if name in NOWHERE or FRAMES.match(name):
            wrong.append(f"L17 {name}")
    for name in names.top + names.locals + names.read:
        if name in NOT_AS_NAMES:
            wrong.append(f"L17 {name}")
    for name in names.locals:
        if name in PYTHONS_NAMES or name in names.classes or name in names.imports:
            wrong.append(f"L15 {name}")
    for name in names.top:
        if name in PYTHONS_NAMES or names.top.count(name) > 1:
            wrong.append(f"L15 {name}")
    for name in names.methods:
        if name in PYTHONS_ATTRIBUTES - TWO_UNDERSCORES and name not in FREE_FOR_METHODS:
            wrong.append(f"L26 {name}")
    for name in names.values:
        if name in PYTHONS_ATTRIBUTES and name not in FREE_FOR_VALUES:
            wrong.append(f"L26 {name}")
    return wrong


def wrong_words(text):
    found = [word for word in WORDS if re.search(rf"\b{word}\b", text)]
    return found + [part for part in PARTS_OF_WORDS if part in text]


class NamesTest(unittest.TestCase):
    def test_there_are_files(self):
        self.assertIn(PACKAGE / "piece.py", FILES)

    def test_names_of_files(self):
        for path in FILES:
            with self.subTest(file=path.name):
                if path.name != "__init__.py":
                    self.assertRegex(path.stem, PLAIN_FILE)
                self.assertFalse(path.stem in NO_FILES or path.stem.startswith("test_"))
                self.assertFalse(path.stem in PYTHONS_NAMES or path.stem in WORDS or keyword.iskeyword(path.stem))

    def test_signs(self):
        for name, text in TEXTS:
            with self.subTest(file=name):
                self.assertRegex(text, r"\A[ -~\n]*\Z")

    def test_names(self):
        for name, text in TEXTS:
            with self.subTest(file=name):
                self.assertEqual(wrong_names(text), [])

    def test_words_that_stand_nowhere(self):
        for name, text in TEXTS:
            with self.subTest(file=name):
                self.assertEqual(wrong_words(text), [])

    def test_no_name_is_a_method_and_a_value(self):
        every = [names_of(text) for name, text in TEXTS]
        methods = {name for names in every for name in names.methods}
        values = {name for names in every for name in names.values}
        self.assertEqual(methods & values, set())

    def test_no_method_stands_twice(self):
        for name, text in TEXTS:
            for node in ast.parse(text).body:
                if isinstance(node, ast.ClassDef):
                    with self.subTest(file=name, of=node.name):
                        methods = [part.name for part in methods_of(node)]
                        self.assertEqual(len(methods), len(set(methods)))

    def test_methods_of_pythons_own_values(self):
        every = [names_of(text) for name, text in TEXTS]
        own = {name for names in every for name in names.methods + names.values}
        used = {name for names in every for name in names.attributes}
        self.assertEqual(used - own - PYTHONS_METHODS_TAKEN, set())


class WhatIsFoundTest(unittest.TestCase):
    """That a name outside the rules would be seen."""

    def test_names(self):
        for text, wrong in (
            ("class A:\n    def add_note(self):\n        pass\n", "L17 add_note"),
            ("def f(a):\n    a.add_note(3)\n", "L17 add_note"),
            ("def f(a):\n    return a.f_back\n", "L17 f_back"),
            ("def elements(a):\n    return a\n", "L17 elements"),
            ("def f(a):\n    return id(a)\n", "L17 id"),
            ("def f(a):\n    hash = a\n", "L15 hash"),
            ("def f(a, sum):\n    return a\n", "L15 sum"),
            ("def f(a):\n    return [max for max in a]\n", "L15 max"),
            ("class A:\n    pass\ndef f(A):\n    pass\n", "L15 A"),
            ("from exacttimes.score import Note\ndef f(Note):\n    pass\n", "L15 Note"),
            ("def f():\n    pass\ndef f():\n    pass\n", "L15 f"),
            ("def f(a):\n    _b = a\n", "L12 _b"),
            ("class A:\n    def sort(self):\n        pass\n", "L26 sort"),
            ("class A:\n    def __init__(self):\n        self.values = 1\n", "L26 values"),
            ("class A:\n    def __init__(self):\n        self.numerator = 1\n", "L26 numerator"),
        ):
            with self.subTest(text=text):
                self.assertIn(wrong, wrong_names(text))

    def test_words(self):
        self.assertEqual(wrong_words("# a type of note\n"), ["type"])
        self.assertEqual(wrong_words("# overloaded\n"), ["overload"])
        self.assertEqual(wrong_words("# typed, enumerate\n"), [])
