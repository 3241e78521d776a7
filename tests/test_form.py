"""The form of the package, as far as a test can plainly see it."""

import ast
import builtins
import pathlib
import re
import unittest

PACKAGE = pathlib.Path(__file__).resolve().parent.parent / "wovenway"

INTERFACE = {
    "errors.py": (
        "RowError", "NoRow", "NoWorths", "NoNumber", "NoHidden", "NoCard", "Taken", "Full", "NoneLeft", "Barred",
    ),
    "rows.py": ("is_row", "is_parting", "parting", "how_many", "sides"),
    "fours.py": ("four", "bars"),
    "elsewhere.py": ("fewest", "woven_of", "can_be", "worth", "worthiest"),
    "rings.py": ("seams",),
    "counted.py": ("rows_of", "filled"),
    "laid.py": ("Laid",),
}

LAID_METHODS = ("lay", "take", "cards", "partings", "sides", "can_be_laid", "__len__", "__eq__")

# Of the builtins that the package may use, those that it does.
BUILTINS = {
    "len", "range", "enumerate", "zip", "max", "sorted", "int", "bool", "list", "tuple", "set", "isinstance",
    "all", "super", "ValueError",
}

BARRED_WORDS = re.compile(
    r"\b(type|typing|typing_extensions|enum|Enum|IntEnum|StrEnum|Flag|IntFlag|Generic|Protocol|ABC|ABCMeta"
    r"|namedtuple|NamedTuple|TypedDict|TYPE_CHECKING|abstractmethod)\b|dataclass|overload|contextmanager"
)


def files():
    return sorted(path for path in PACKAGE.iterdir() if path.name != "__pycache__")


def trees():
    return [(path, ast.parse(path.read_text(encoding="utf-8"))) for path in files()]


class Form(unittest.TestCase):
    def test_plain_files_only(self):
        self.assertIn("__init__.py", [path.name for path in files()])
        for path in files():
            self.assertTrue(path.is_file() and re.fullmatch(r"[a-z0-9_]+\.py", path.name), path)

    def test_characters_and_sizes(self):
        for path in files():
            text = path.read_text(encoding="utf-8")
            self.assertIsNone(re.search(r"[^ -~\n]", text), path)
            self.assertIsNone(BARRED_WORDS.search(text), path)
            rows = text.splitlines()
            self.assertLess(len(rows), 400, path)
            self.assertLessEqual(max(len(row) for row in rows), 120, path)

    def test_functions_are_short(self):
        for path, tree in trees():
            for node in ast.walk(tree):
                if isinstance(node, ast.FunctionDef):
                    self.assertLessEqual(node.end_lineno - node.lineno + 1, 40, (path, node.name))

    def test_imports_stay_within_the_package(self):
        for path, tree in trees():
            for node in ast.walk(tree):
                self.assertNotIsInstance(node, ast.Import, path)
                if isinstance(node, ast.ImportFrom):
                    self.assertEqual(node.level, 0, path)
                    self.assertTrue(node.module.startswith("wovenway."), (path, node.module))

    def test_interface_is_defined_where_it_is_listed(self):
        for name, listed in INTERFACE.items():
            tree = ast.parse((PACKAGE / name).read_text(encoding="utf-8"))
            defined = [node.name for node in tree.body if isinstance(node, (ast.FunctionDef, ast.ClassDef))]
            for wanted in listed:
                self.assertIn(wanted, defined, name)

    def test_the_class_has_its_methods_itself(self):
        tree = ast.parse((PACKAGE / "laid.py").read_text(encoding="utf-8"))
        bodies = [node.body for node in tree.body if isinstance(node, ast.ClassDef) and node.name == "Laid"]
        defined = [node.name for body in bodies for node in body if isinstance(node, ast.FunctionDef)]
        for wanted in LAID_METHODS:
            self.assertIn(wanted, defined)

    def test_plain_names_and_listed_builtins(self):
        for path, tree in trees():
            for node in ast.walk(tree):
                if isinstance(node, ast.Name):
                    self.assertFalse(node.id.startswith("_"), (path, node.id))
                    self.assertTrue(node.id in BUILTINS or not hasattr(builtins, node.id), (path, node.id))
                if isinstance(node, ast.arg):
                    self.assertFalse(node.arg.startswith("_") or hasattr(builtins, node.arg), (path, node.arg))

    def test_no_name_is_an_import_and_a_variable(self):
        for path, tree in trees():
            nodes = list(ast.walk(tree))
            imported = {name.name for node in nodes if isinstance(node, ast.ImportFrom) for name in node.names}
            classes = {node.name for node in nodes if isinstance(node, ast.ClassDef)}
            bound = {node.id for node in nodes if isinstance(node, ast.Name) and isinstance(node.ctx, ast.Store)}
            bound |= {node.arg for node in nodes if isinstance(node, ast.arg)}
            self.assertFalse(bound & (imported | classes), path)

    def test_no_barred_statements_and_expressions(self):
        barred = (
            ast.Global, ast.AsyncFunctionDef, ast.Try, ast.GeneratorExp, ast.SetComp, ast.Div, ast.Pow, ast.MatMult,
        )
        for path, tree in trees():
            nodes = list(ast.walk(tree))
            # None is the only thing that "is" stands beside here.
            beside = [
                node for node in nodes
                if isinstance(node, ast.Compare) and isinstance(node.ops[0], (ast.Is, ast.IsNot))
            ]
            for node in beside:
                self.assertIsNone(node.comparators[0].value, path)
            for node in nodes:
                self.assertNotIsInstance(node, barred, path)
                if isinstance(node, ast.Constant):
                    self.assertNotIsInstance(node.value, float, path)
                    self.assertNotIn("%", str(node.value), path)


if __name__ == "__main__":
    unittest.main()
