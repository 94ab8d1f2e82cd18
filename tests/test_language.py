"""The rules of the language subset that are easily broken by accident."""

import ast
import pathlib
import re
import unittest

PACKAGE = pathlib.Path(__file__).resolve().parent.parent / "paritycells"
FILES = sorted(PACKAGE.glob("*.py"))
DUNDERS = {"__init__", "__eq__", "__repr__", "__str__", "__len__"}
BARRED = re.compile(
    r"\b(type|typing|typing_extensions|enum|Enum|IntEnum|StrEnum|Flag|IntFlag|Generic|Protocol|ABC|ABCMeta"
    r"|namedtuple|NamedTuple|TypedDict|TYPE_CHECKING|abstractmethod)\b|dataclass|overload|contextmanager"
)


def trees():
    """Return each file with its syntax tree."""
    return [(path, ast.parse(path.read_text())) for path in FILES]


def nodes(*kinds):
    """Return all nodes of these kinds in the package."""
    return [node for path, tree in trees() for node in ast.walk(tree) if isinstance(node, kinds)]


def bound_names():
    """Return every name that the package gives to something."""
    names = [node.name for node in nodes(ast.FunctionDef, ast.ClassDef)]
    names += [node.arg for node in nodes(ast.arg)]
    names += [node.id for node in nodes(ast.Name) if isinstance(node.ctx, ast.Store)]
    return names + stored_attributes()


def stored_attributes():
    """Return every attribute that the package assigns."""
    return [node.attr for node in nodes(ast.Attribute) if isinstance(node.ctx, ast.Store)]


def defined(tree):
    """Return the names that a file defines itself at module level."""
    names = [node.name for node in tree.body if isinstance(node, (ast.FunctionDef, ast.ClassDef))]
    return names + [node.targets[0].id for node in tree.body if isinstance(node, ast.Assign)]


class Language(unittest.TestCase):

    def test_files(self):
        found = [path.name for path in PACKAGE.iterdir() if path.name != "__pycache__"]
        self.assertIn("__init__.py", found)
        for name in found:
            self.assertRegex(name, r"^([a-z][a-z0-9_]*|__init__)\.py$")

    def test_characters_and_lengths(self):
        for path in FILES:
            text = path.read_text()
            with self.subTest(path.name):
                self.assertRegex(text, r"\A[ -~\n]*\Z")
                self.assertLessEqual(len(text.splitlines()), 399)
                self.assertLessEqual(max(len(line) for line in text.splitlines()), 120)
                self.assertIsNone(BARRED.search(text))

    def test_functions_are_short(self):
        for node in nodes(ast.FunctionDef):
            self.assertLessEqual(node.end_lineno - node.lineno + 1, 40, node.name)

    def test_imports_name_the_file_that_defines(self):
        homes = {f"paritycells.{path.stem}": defined(tree) for path, tree in trees()}
        self.assertEqual(nodes(ast.Import), [])
        for node in nodes(ast.ImportFrom):
            for alias in node.names:
                self.assertIn(alias.name, homes[node.module])

    def test_plain_names(self):
        for name in bound_names():
            self.assertTrue(name in DUNDERS or not name.startswith("_"), name)

    def test_no_name_is_both_method_and_attribute(self):
        methods = [each.name for node in nodes(ast.ClassDef) for each in node.body if isinstance(each, ast.FunctionDef)]
        self.assertEqual(set(methods) & set(stored_attributes()), set())

    def test_strings(self):
        for node in nodes(ast.Constant):
            self.assertNotIsInstance(node.value, float)
            if isinstance(node.value, str):
                self.assertNotIn("%", node.value)

    def test_is_only_beside_none_true_and_false(self):
        for node in nodes(ast.Compare):
            for sign, right in zip(node.ops, node.comparators):
                if isinstance(sign, (ast.Is, ast.IsNot)):
                    self.assertIsInstance(right, ast.Constant)


if __name__ == "__main__":
    unittest.main()
