"""The rules of the language subset that are easily broken by accident."""

import ast
import builtins
import pathlib
import re
import unittest

PACKAGE = pathlib.Path(__file__).resolve().parent.parent / "paritycells"
FILES = sorted(PACKAGE.glob("*.py"))
DUNDERS = {"__init__", "__eq__", "__repr__", "__str__", "__len__"}
BARRED = re.compile(
    r"\b(type|typing|typing_extensions|enum|Enum|IntEnum|StrEnum|Flag|IntFlag|Generic|Protocol|ABC|ABCMeta"
    r"|namedtuple|NamedTuple|TypedDict|TYPE_CHECKING|abstractmethod)\b|dataclass|overload|contextmanager"
)

# The builtins and the methods of builtin values that the subset allows and this package has a use for.
CALLED = set(
    "len range enumerate zip min max sum abs sorted reversed int str bool list tuple dict set isinstance ord repr any"
    " all divmod".split()
)
METHODS = set(
    "append clear copy count endswith extend find get index insert isalnum isalpha isdigit islower isspace isupper"
    " items join keys ljust lower lstrip partition pop remove replace reverse rfind rjust rpartition rsplit rstrip"
    " setdefault split splitlines startswith strip update upper values zfill bit_length".split()
)
BASES = {"ValueError", "LookupError", "RuntimeError", "ArithmeticError"}


def trees():
    """Return each file with its syntax tree."""
    return [(path, ast.parse(path.read_text())) for path in FILES]


def nodes(*kinds):
    """Return all nodes of these kinds in the package."""
    return [node for path, tree in trees() for node in ast.walk(tree) if isinstance(node, kinds)]


def bound_names():
    """Return every name that the package gives to something."""
    names = [node.name for node in nodes(ast.FunctionDef, ast.ClassDef)]
    names += [node.arg for node in nodes(ast.arg)]
    names += [node.id for node in nodes(ast.Name) if isinstance(node.ctx, ast.Store)]
    return names + stored_attributes()


def stored_attributes():
    """Return every attribute that the package assigns."""
    return [node.attr for node in nodes(ast.Attribute) if isinstance(node.ctx, ast.Store)]


def defined(tree):
    """Return the names that a file defines itself at module level."""
    names = [node.name for node in tree.body if isinstance(node, (ast.FunctionDef, ast.ClassDef))]
    return names + [node.targets[0].id for node in tree.body if isinstance(node, ast.Assign)]


def own_methods():
    """Return the names of all methods of the package."""
    return {each.name for node in nodes(ast.ClassDef) for each in node.body if isinstance(each, ast.FunctionDef)}


def locals_of(tree):
    """Return the parameters and local variables of a file."""
    names = [node.arg for node in ast.walk(tree) if isinstance(node, ast.arg)]
    functions = [node for node in ast.walk(tree) if isinstance(node, ast.FunctionDef)]
    stored = [each for node in functions for each in ast.walk(node) if isinstance(each, ast.Name)]
    return set(names) | {each.id for each in stored if isinstance(each.ctx, ast.Store)}


def imported(tree):
    """Return the names that a file imports."""
    return {alias.name for node in tree.body if isinstance(node, ast.ImportFrom) for alias in node.names}


class Language(unittest.TestCase):

    def test_files(self):
        found = [path.name for path in PACKAGE.iterdir() if path.name != "__pycache__"]
        self.assertIn("__init__.py", found)
        for name in found:
            self.assertRegex(name, r"^([a-z][a-z0-9_]*|__init__)\.py$")

    def test_characters_and_lengths(self):
        for path in FILES:
            text = path.read_text()
            with self.subTest(path.name):
                self.assertRegex(text, r"\A[ -~\n]*\Z")
                self.assertLessEqual(len(text.splitlines()), 399)
                self.assertLessEqual(max(len(line) for line in text.splitlines()), 120)
                self.assertIsNone(BARRED.search(text))

    def test_functions_are_short(self):
        for node in nodes(ast.FunctionDef):
            self.assertLessEqual(node.end_lineno - node.lineno + 1, 40, node.name)

    def test_imports_name_the_file_that_defines(self):
        homes = {f"paritycells.{path.stem}": defined(tree) for path, tree in trees()}
        self.assertEqual(nodes(ast.Import), [])
        for node in nodes(ast.ImportFrom):
            for alias in node.names:
                self.assertIn(alias.name, homes[node.module])

    def test_plain_names(self):
        for name in bound_names():
            self.assertTrue(name in DUNDERS or not name.startswith("_"), name)

    def test_no_name_is_both_method_and_attribute(self):
        self.assertEqual(own_methods() & set(stored_attributes()), set())

    def test_attributes_that_are_read_are_assigned_or_methods(self):
        known = own_methods() | set(stored_attributes()) | METHODS
        for node in nodes(ast.Attribute):
            self.assertIn(node.attr, known)

    def test_names_of_builtins_and_imports_keep_their_meaning(self):
        self.assertEqual(set(bound_names()) & set(dir(builtins)), set())
        for path, tree in trees():
            classes = {node.name for node in tree.body if isinstance(node, ast.ClassDef)}
            self.assertEqual(locals_of(tree) & (imported(tree) | classes), set(), path.name)

    def test_builtins(self):
        used = {node.id for node in nodes(ast.Name)} & set(dir(builtins))
        self.assertLessEqual(used, CALLED | BASES)

    def test_statements_and_expressions_that_are_not_used(self):
        kinds = (
            ast.Global, ast.AsyncFunctionDef, ast.GeneratorExp, ast.Yield, ast.YieldFrom, ast.Lambda, ast.Div,
            ast.NamedExpr, ast.AnnAssign, ast.Starred, ast.With, ast.Match,
        )
        self.assertEqual(nodes(*kinds), [])

    def test_only_own_errors_are_caught(self):
        own = set(defined(ast.parse((PACKAGE / "errors.py").read_text())))
        for node in nodes(ast.Try):
            self.assertEqual([node.finalbody, node.orelse], [[], []])
            for handler in node.handlers:
                caught = handler.type.elts if isinstance(handler.type, ast.Tuple) else [handler.type]
                self.assertLessEqual({each.id for each in caught}, own)

    def test_errors_are_raised_by_their_class(self):
        own = set(defined(ast.parse((PACKAGE / "errors.py").read_text())))
        for node in nodes(ast.Raise):
            self.assertIn(node.exc.func.id, own)

    def test_module_level_values_are_not_changed(self):
        for path, tree in trees():
            tables = {node.targets[0].id for node in tree.body if isinstance(node, ast.Assign)}
            for node in ast.walk(tree):
                if isinstance(node, ast.Subscript) and isinstance(node.ctx, (ast.Store, ast.Del)):
                    self.assertNotIn(getattr(node.value, "id", None), tables)

    def test_no_imports_in_a_circle(self):
        needs = {}
        for path, tree in trees():
            found = [node.module for node in tree.body if isinstance(node, ast.ImportFrom)]
            needs[f"paritycells.{path.stem}"] = set(found)
        while needs:
            free = [name for name in needs if not needs[name] & set(needs)]
            self.assertNotEqual(free, [], "some files import each other")
            for name in free:
                del needs[name]

    def test_each_import_is_used(self):
        for path, tree in trees():
            used = {node.id for node in ast.walk(tree) if isinstance(node, ast.Name)}
            self.assertLessEqual(imported(tree), used, path.name)

    def test_what_a_loop_runs_over_is_written_on_the_spot(self):
        late = {"zip", "enumerate", "reversed", "range"}
        for node in nodes(ast.Assign, ast.Return):
            if isinstance(node.value, ast.Call) and isinstance(node.value.func, ast.Name):
                self.assertNotIn(node.value.func.id, late)

    def test_strings(self):
        for node in nodes(ast.Constant):
            self.assertNotIsInstance(node.value, float)
            if isinstance(node.value, str):
                self.assertNotIn("%", node.value)

    def test_is_only_beside_none_true_and_false(self):
        for node in nodes(ast.Compare):
            for sign, right in zip(node.ops, node.comparators):
                if isinstance(sign, (ast.Is, ast.IsNot)):
                    self.assertIsInstance(right, ast.Constant)


if __name__ == "__main__":
    unittest.main()
