"""The rules of LANGUAGE.md that can be told from the files by simple means, and the files of the interface."""

import ast
import builtins
import importlib
import inspect
import pathlib
import unittest

PACKAGE = pathlib.Path(__file__).resolve().parent.parent / "lapfold"

INTERFACE = {
    "lapfold.errors": {"LapError": None, "BadForm": None, "Dry": None, "NeedntFall": None, "Uneven": None},
    "lapfold.shares": {"share": 2, "plus": 2, "minus": 2, "times": 2},
    "lapfold.sums": {
        "Sum": None, "sum_of_number": 1, "sum_of_name": 1, "added": 2, "lessened": 2, "timed": 2,
        "put_in": 2, "totalled": 3, "worth": 2, "is_natural": 1, "same": 2, "names_in": 1,
    },
    "lapfold.forms": {"need_program": 1, "names_of": 1, "sum_told": 1},
    "lapfold.plain": {"ran": 3},
    "lapfold.changes": {"done_by": 1},
    "lapfold.falls": {"looked": 1},
    "lapfold.counting": {"count_of": 1, "ends_of": 1},
    "lapfold.folds": {"written": 1, "value": 2},
}
ARGUMENTS = {
    "lapfold.forms": {"need_program": ["program"], "names_of": ["program"], "sum_told": ["expression"]},
    "lapfold.plain": {"ran": ["program", "names", "most"]},
    "lapfold.changes": {"done_by": ["row"]},
    "lapfold.falls": {"looked": ["program"]},
    "lapfold.counting": {"count_of": ["program"], "ends_of": ["program"]},
    "lapfold.folds": {"written": ["program"], "value": ["fold", "slots"]},
}

LIBRARY = {"math": {"gcd", "lcm", "isqrt", "comb", "perm", "factorial"}}
BUILTINS = set(
    "len range enumerate zip min max sum abs sorted reversed int str bool list tuple dict set frozenset "
    "isinstance ord repr any all divmod Exception ValueError TypeError KeyError IndexError LookupError "
    "ZeroDivisionError ArithmeticError OverflowError RuntimeError type".split()
)
BARRED = (
    ast.Div, ast.AsyncFunctionDef, ast.AsyncFor, ast.AsyncWith, ast.Await, ast.Global, ast.AnnAssign, ast.Pow,
)


def files():
    return sorted(PACKAGE.rglob("*.py"))


def trees():
    return [(path, ast.parse(path.read_text(encoding="utf-8"))) for path in files()]


def bound_names(tree):
    """All names that a file binds: by functions, classes, parameters and assignments."""
    for node in ast.walk(tree):
        if isinstance(node, (ast.FunctionDef, ast.ClassDef)):
            yield node.name
        if isinstance(node, ast.arg):
            yield node.arg
        if isinstance(node, ast.Name) and not isinstance(node.ctx, ast.Load):
            yield node.id
        if isinstance(node, ast.alias):
            yield node.asname or node.name


class Files(unittest.TestCase):
    def test_nothing_else_in_the_folder(self):
        for path in PACKAGE.rglob("*"):
            if "__pycache__" not in path.parts and not path.is_dir():
                self.assertEqual(path.suffix, ".py", path)
        self.assertTrue((PACKAGE / "__init__.py").is_file())

    def test_characters_and_sizes(self):
        for path in files():
            text = path.read_text(encoding="utf-8")
            self.assertTrue(all(sign == "\n" or " " <= sign <= "~" for sign in text), path)
            rows = text.split("\n")
            self.assertLessEqual(len(rows), 399, path)
            self.assertLessEqual(max(len(row) for row in rows), 120, path)

    def test_functions_are_small(self):
        for path, tree in trees():
            for node in ast.walk(tree):
                if isinstance(node, ast.FunctionDef):
                    self.assertLessEqual(node.end_lineno - node.lineno + 1, 40, (path, node.name))


class Code(unittest.TestCase):
    def test_imports(self):
        for path, tree in trees():
            for node in ast.walk(tree):
                self.assertNotIsInstance(node, ast.Import, path)
                if isinstance(node, ast.ImportFrom):
                    self.assertIn(node, tree.body, path)
                    self.assertEqual(node.level, 0, path)
                    self.assertTrue(all(alias.asname is None and alias.name != "*" for alias in node.names), path)
                    if node.module in LIBRARY:
                        self.assertLessEqual({alias.name for alias in node.names}, LIBRARY[node.module], path)
                    else:
                        self.assertTrue(node.module.startswith("lapfold."), (path, node.module))

    def test_imports_name_the_file_that_defines(self):
        for path, tree in trees():
            for node in tree.body:
                if isinstance(node, ast.ImportFrom) and node.module not in LIBRARY:
                    module = importlib.import_module(node.module)
                    for alias in node.names:
                        held = getattr(module, alias.name)
                        self.assertEqual(getattr(held, "__module__", node.module), node.module, (path, alias.name))

    def test_nothing_barred(self):
        for path, tree in trees():
            for node in ast.walk(tree):
                self.assertNotIsInstance(node, BARRED, (path, getattr(node, "lineno", 0)))
                if isinstance(node, ast.Constant):
                    self.assertNotIsInstance(node.value, (float, complex), (path, node.lineno))
                if isinstance(node, (ast.FunctionDef, ast.ClassDef)):
                    self.assertEqual(node.decorator_list, [], (path, node.name))

    def test_no_name_of_a_builtin_means_something_else(self):
        for path, tree in trees():
            for name in bound_names(tree):
                if name != "__init__":
                    self.assertFalse(hasattr(builtins, name), (path, name))

    def test_only_some_builtins(self):
        for path, tree in trees():
            for node in ast.walk(tree):
                if isinstance(node, ast.Name) and hasattr(builtins, node.id):
                    self.assertIn(node.id, BUILTINS, (path, node.lineno))

    def test_kinds_are_only_compared(self):
        for path, tree in trees():
            compared = 0
            asked = 0
            for node in ast.walk(tree):
                if isinstance(node, ast.Compare) and isinstance(node.left, ast.Call):
                    called = node.left.func
                    if isinstance(called, ast.Name) and called.id == "type":
                        self.assertIsInstance(node.ops[0], (ast.Eq, ast.NotEq), (path, node.lineno))
                        compared += 1
                asked += isinstance(node, ast.Name) and node.id == "type"
            self.assertEqual(asked, compared, path)

    def test_is_stands_beside_none_true_and_false(self):
        for path, tree in trees():
            for node in ast.walk(tree):
                if isinstance(node, ast.Compare) and isinstance(node.ops[0], (ast.Is, ast.IsNot)):
                    self.assertIsInstance(node.comparators[0], ast.Constant, (path, node.lineno))
                    self.assertIn(node.comparators[0].value, (None, True, False), (path, node.lineno))

    def test_imports_and_classes_keep_their_names(self):
        for path, tree in trees():
            names = list(bound_names(tree))
            for node in tree.body:
                if isinstance(node, ast.ClassDef):
                    self.assertEqual(names.count(node.name), 1, (path, node.name))
                if isinstance(node, ast.ImportFrom):
                    for alias in node.names:
                        self.assertEqual(names.count(alias.name), 1, (path, alias.name))


class Interface(unittest.TestCase):
    def test_defined_in_their_files(self):
        for module_name, members in INTERFACE.items():
            module = importlib.import_module(module_name)
            for name, many in members.items():
                held = getattr(module, name)
                self.assertEqual(held.__module__, module_name, name)
                self.assertEqual(inspect.isclass(held), many is None, name)
                if many is not None:
                    self.assertEqual(len(inspect.signature(held).parameters), many, name)

    def test_arguments_have_their_names(self):
        for module_name, members in ARGUMENTS.items():
            module = importlib.import_module(module_name)
            for name, arguments in members.items():
                self.assertEqual(list(inspect.signature(getattr(module, name)).parameters), arguments, name)

    def test_a_sum_is_made_of_parts(self):
        module = importlib.import_module("lapfold.sums")
        self.assertEqual(list(inspect.signature(module.Sum).parameters), ["parts"])


if __name__ == "__main__":
    unittest.main()
