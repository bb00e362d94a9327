"""The form of the code: its files, its sizes, its imports, and the interface in the files that list it."""

import ast
import pathlib
import re
import unittest

PACKAGE = pathlib.Path(__file__).resolve().parent.parent / "wordsums"

INTERFACE = {
    "errors.py": {
        "SumError": None,
        "BadSheet": None,
        "NoAnswer": None,
        "ManyAnswers": None,
        "NotOne": None,
        "BadText": None,
    },
    "sheets.py": {"Sheet": ["base", "sums"], "worth": ["word", "figures", "base"], "keeps": ["sheet", "figures"]},
    "cases.py": {"table_of": ["sheet"], "answers": ["sheet"], "size_of": ["table"]},
    "showing.py": {"shows": ["sheet", "table"]},
    "only.py": {
        "only": ["sheet"],
        "sure": ["sheet", "known"],
        "givens": ["sheet", "answer"],
        "worthy": ["base", "words"],
    },
    "counting.py": {"how_many": ["sheet"]},
    "notes.py": {"written": ["sheet"], "read": ["text"]},
}
METHODS = {("sheets.py", "Sheet"): ["sums", "letters"]}

BARRED = re.compile(
    r"\b(type|typing|typing_extensions|enum|Enum|IntEnum|StrEnum|Flag|IntFlag|Generic|Protocol|ABC|ABCMeta"
    r"|namedtuple|NamedTuple|TypedDict|TYPE_CHECKING|abstractmethod)\b|dataclass|overload|contextmanager"
)
BUILTINS = set(
    "len range enumerate zip min max sum abs sorted reversed int str bool list tuple dict set isinstance ord repr"
    " any all divmod ValueError KeyError super iter next".split()
)


def files():
    return sorted(PACKAGE.glob("*.py"))


def parsed(path):
    return ast.parse(path.read_text(encoding="utf-8"))


def defined(path):
    return {node.name: node for node in parsed(path).body if isinstance(node, (ast.FunctionDef, ast.ClassDef))}


def parameters(node):
    if isinstance(node, ast.ClassDef):
        node = next(inner for inner in node.body if getattr(inner, "name", "") == "__init__")
    return [argument.arg for argument in node.args.args if argument.arg != "self"]


class Interface(unittest.TestCase):
    def test_each_name_is_defined_where_it_is_listed(self):
        for name, told in INTERFACE.items():
            found = defined(PACKAGE / name)
            for one, arguments in told.items():
                self.assertIn(one, found, name)
                if arguments is not None:
                    self.assertEqual(parameters(found[one]), arguments, one)

    def test_each_method_stands_in_its_class(self):
        for (name, kind), methods in METHODS.items():
            found = [node.name for node in defined(PACKAGE / name)[kind].body if isinstance(node, ast.FunctionDef)]
            for method in methods:
                self.assertIn(method, found)


class Form(unittest.TestCase):
    def test_the_package_holds_nothing_but_its_files(self):
        held = {path.name for path in PACKAGE.iterdir() if path.name != "__pycache__"}
        self.assertEqual(held, {path.name for path in files()})
        self.assertIn("__init__.py", held)
        for name in held - {"__init__.py", "__main__.py"}:
            self.assertRegex(name, r"^[a-z][a-z0-9_]*\.py$")

    def test_signs_and_sizes(self):
        for path in files():
            text = path.read_bytes().decode("ascii")
            self.assertIsNone(re.search(r"[^ -~\n]", text), path.name)
            lines = text.split("\n")
            self.assertLessEqual(len(lines), 400, path.name)
            self.assertLessEqual(max(map(len, lines)), 120, path.name)
            self.assertIsNone(BARRED.search(text), path.name)
            for node in ast.walk(parsed(path)):
                if isinstance(node, ast.FunctionDef):
                    self.assertLessEqual(node.end_lineno - node.lineno + 1, 40, node.name)

    def test_imports_are_from_the_very_files_of_the_package(self):
        for path in files():
            for node in ast.walk(parsed(path)):
                self.assertNotIsInstance(node, ast.Import, path.name)
                if isinstance(node, ast.ImportFrom):
                    self.assertEqual((node.level, node.module.split(".")[0]), (0, "wordsums"))
                    names = {alias.name for alias in node.names}
                    self.assertLessEqual(names, set(defined(PACKAGE / (node.module.split(".")[1] + ".py"))))

    def test_no_names_of_python_but_those_that_are_allowed(self):
        barred = set(dir(__builtins__) if not isinstance(__builtins__, dict) else __builtins__) - BUILTINS
        for path in files():
            for node in ast.walk(parsed(path)):
                if isinstance(node, ast.Name):
                    self.assertNotIn(node.id, barred, path.name)
                    self.assertFalse(isinstance(node.ctx, ast.Store) and node.id in BUILTINS, node.id)
                if isinstance(node, ast.arg):
                    self.assertNotIn(node.arg, barred | BUILTINS, path.name)

    def test_no_name_is_a_method_and_an_attribute(self):
        methods, attributes = set(), set()
        for path in files():
            for node in ast.walk(parsed(path)):
                if isinstance(node, ast.ClassDef):
                    methods |= {inner.name for inner in node.body if isinstance(inner, ast.FunctionDef)}
                if isinstance(node, ast.Attribute) and isinstance(node.ctx, ast.Store):
                    attributes.add(node.attr)
        self.assertEqual(methods & attributes, set())

    def test_no_variable_is_called_as_a_function_or_an_import_of_its_file(self):
        for path in files():
            nodes = list(ast.walk(parsed(path)))
            names = set(defined(path))
            names |= {alias.name for node in nodes if isinstance(node, ast.ImportFrom) for alias in node.names}
            for node in nodes:
                if isinstance(node, ast.Name) and isinstance(node.ctx, ast.Store):
                    self.assertNotIn(node.id, names, path.name)
                if isinstance(node, (ast.arg, ast.MatchAs)):
                    self.assertNotIn(node.arg if isinstance(node, ast.arg) else node.name, names, path.name)

    def test_nothing_that_the_language_leaves_out(self):
        out = (ast.Global, ast.Div, ast.AsyncFunctionDef, ast.Await, ast.Set)
        for path in files():
            for node in ast.walk(parsed(path)):
                self.assertNotIsInstance(node, out, path.name)
                if isinstance(node, ast.Constant):
                    self.assertNotIsInstance(node.value, (float, complex), path.name)
                    self.assertFalse(isinstance(node.value, str) and "%" in node.value, path.name)


if __name__ == "__main__":
    unittest.main()
