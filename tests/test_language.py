"""What the package's files may contain, as far as a look at them can tell."""

import ast
import builtins
import unittest
from pathlib import Path

from tests.test_interface import FUNCTIONS
from tests.test_interface import METHODS as METHODS_LISTED
from twinsheets import errors

# The error classes are there before what raises them.
ERRORS = [name for name in vars(errors) if name[0] != "_"]
ROOT = Path(__file__).resolve().parent.parent
PACKAGE = ROOT / "twinsheets"
FILES = sorted(PACKAGE.rglob("*.py"))
# Of all builtins these are called; the error classes are derived from, or raised.
CALLED = {"len", "range", "enumerate", "zip", "min", "max", "sum", "sorted", "int", "str", "bool", "list", "tuple",
          "dict", "isinstance", "all", "any", "iter", "property", "classmethod", "NotImplemented", "ValueError", "TypeError", "KeyError",
          "IndexError", "ArithmeticError", "OverflowError", "RuntimeError"}
# Nodes that the language does not have, or that the package does without.
BARRED = (ast.AsyncFunctionDef, ast.AsyncFor, ast.AsyncWith, ast.Await, ast.Global, ast.Nonlocal, ast.GeneratorExp,
          ast.Set, ast.SetComp, ast.Lambda, ast.Import, ast.Try, ast.AugAssign, ast.AnnAssign, ast.NamedExpr, ast.Div,
          ast.YieldFrom, ast.Delete, ast.Assert, ast.Starred)
METHODS = {"__init__", "__eq__", "__str__", "__len__", "__iter__", "__call__", "__add__", "__sub__", "__mul__",
           "__floordiv__", "__mod__", "__neg__", "__contains__", "__getitem__", "__enter__", "__exit__"}
NAMES = {"register", "mro", "elements", "open", "input", "law", "exit", "id", "dir", "vars", "help", "compile", "type"}


def trees():
    for path in FILES:
        yield path, ast.parse(path.read_text(encoding="ascii"))


def names_of(tree):
    """All names that a file gives to something."""
    for node in ast.walk(tree):
        if isinstance(node, ast.Name) and isinstance(node.ctx, ast.Store):
            yield node.id
        elif isinstance(node, ast.arg):
            yield node.arg
        elif isinstance(node, (ast.FunctionDef, ast.ClassDef)):
            yield node.name
        elif isinstance(node, ast.Attribute) and isinstance(node.ctx, ast.Store):
            yield node.attr


def changed_lists(tree):
    """The names of what a function gives items to, or changes by a method."""
    for node in ast.walk(tree):
        if isinstance(node, ast.Subscript) and isinstance(node.ctx, (ast.Store, ast.Del)):
            held = node.value
        elif isinstance(node, ast.Attribute) and node.attr in ("append", "extend", "insert", "pop", "remove", "reverse"):
            held = node.value
        else:
            continue
        if isinstance(held, ast.Name):
            yield held.id


class LanguageTest(unittest.TestCase):
    def test_files(self):
        self.assertTrue(FILES)
        for path in PACKAGE.rglob("*"):
            if "__pycache__" not in path.parts:
                self.assertTrue(path.is_dir() or path.suffix == ".py", path)
                self.assertRegex(path.stem, r"^[a-z0-9_]+$")
                if path.is_dir():
                    self.assertTrue((path / "__init__.py").exists(), path)
                    self.assertFalse(path.with_suffix(".py").exists(), path)

    def test_sizes(self):
        for path, tree in trees():
            text = path.read_text(encoding="ascii")
            lines = text.split("\n")
            self.assertLessEqual(len(lines), 399, path)
            self.assertTrue(all(len(line) <= 120 and line == line.rstrip() for line in lines), path)
            self.assertTrue(all(sign == "\n" or " " <= sign <= "~" for sign in text), path)
            for node in ast.walk(tree):
                if isinstance(node, ast.FunctionDef):
                    self.assertLessEqual(node.end_lineno - node.lineno + 1, 40, (path, node.name))

    def test_imports(self):
        held = {".".join(path.relative_to(ROOT).with_suffix("").parts): tree for path, tree in trees()}
        for path, tree in trees():
            rest = [node for node in tree.body if not isinstance(node, (ast.ImportFrom, ast.Expr))]
            for node in ast.walk(tree):
                if isinstance(node, ast.ImportFrom):
                    self.assertIn(node, tree.body)
                    self.assertTrue(not rest or node.lineno < rest[0].lineno)
                    defined = set()
                    for other in held[node.module].body:
                        if isinstance(other, (ast.FunctionDef, ast.ClassDef)):
                            defined.add(other.name)
                        elif isinstance(other, ast.Assign):
                            defined.add(other.targets[0].id)
                    for alias in node.names:
                        self.assertIsNone(alias.asname)
                        self.assertIn(alias.name, defined, path)

    def test_imports_are_used_and_not_named_again(self):
        for path, tree in trees():
            imported = [alias.name for node in tree.body if isinstance(node, ast.ImportFrom) for alias in node.names]
            classes = [node.name for node in tree.body if isinstance(node, ast.ClassDef)]
            self.assertEqual(len(imported), len(set(imported)), path)
            used = {node.id for node in ast.walk(tree) if isinstance(node, ast.Name)}
            self.assertEqual(set(imported) - used, set(), path)
            local = {node.id for node in ast.walk(tree) if isinstance(node, ast.Name) and isinstance(node.ctx, ast.Store)}
            local |= {node.arg for node in ast.walk(tree) if isinstance(node, ast.arg)}
            self.assertEqual(local & set(imported + classes), set(), path)

    def test_private_names_are_used(self):
        for path, tree in trees():
            private = {target.id for node in tree.body if isinstance(node, ast.Assign) for target in node.targets
                       if target.id.startswith("_")}
            used = {node.id for node in ast.walk(tree) if isinstance(node, ast.Name) and isinstance(node.ctx, ast.Load)}
            self.assertEqual(private - used, set(), path)

    def test_functions_are_used(self):
        # By the package itself, or listed in the interface.
        listed = {name for names in FUNCTIONS.values() for name in names}
        named = {node.name for _, tree in trees() for node in tree.body if isinstance(node, (ast.FunctionDef, ast.ClassDef))}
        used = {node.id for _, tree in trees() for node in ast.walk(tree)
                if isinstance(node, ast.Name) and isinstance(node.ctx, ast.Load)}
        self.assertEqual(named - listed - used - {name for _, name in METHODS_LISTED} - set(ERRORS), set())

    def test_nodes(self):
        for path, tree in trees():
            for node in ast.walk(tree):
                self.assertNotIsInstance(node, BARRED, (path, getattr(node, "lineno", None)))
                if isinstance(node, ast.BinOp) and isinstance(node.op, ast.Pow):
                    self.assertIsInstance(node.right, ast.Constant, path)
                if isinstance(node, ast.Constant):
                    self.assertNotIsInstance(node.value, (float, complex, bytes))

    def test_lists_that_are_changed(self):
        # Beside a `__mul__` a list that is made by `*` is not surely a new one.
        for path, tree in trees():
            for node in ast.walk(tree):
                if isinstance(node, ast.FunctionDef):
                    repeated = {target.id for part in ast.walk(node) if isinstance(part, ast.Assign)
                                and isinstance(part.value, ast.BinOp) and isinstance(part.value.op, ast.Mult)
                                and ast.List in (type(part.value.left), type(part.value.right))
                                for target in part.targets if isinstance(target, ast.Name)}
                    self.assertEqual(repeated & set(changed_lists(node)), set(), (path, node.name))

    def test_returns_of_texts_and_lengths(self):
        for path, tree in trees():
            for node in ast.walk(tree):
                if isinstance(node, ast.FunctionDef) and node.name in ("__str__", "__len__"):
                    self.assertIsInstance(node.body[-1], ast.Return)
                    for part in ast.walk(node):
                        if isinstance(part, ast.Return):
                            told = ast.unparse(part.value)
                            self.assertRegex(told, r"^(f?['\"]|len\()", (path, told))

    def test_properties(self):
        # No class gives an attribute the name of a property, whosever it is.
        told, given = set(), set()
        for _, tree in trees():
            for node in ast.walk(tree):
                if isinstance(node, ast.FunctionDef) and any(getattr(mark, "id", None) == "property"
                                                             for mark in node.decorator_list):
                    told.add(node.name)
                elif isinstance(node, ast.Attribute) and isinstance(node.ctx, ast.Store):
                    given.add(node.attr)
        self.assertTrue(told)
        self.assertEqual(told & given, set())

    def test_generators(self):
        # No other function or method has a generator's name.
        named = [node for _, tree in trees() for node in ast.walk(tree) if isinstance(node, ast.FunctionDef)]
        for node in named:
            if any(isinstance(part, ast.Yield) for part in ast.walk(node)):
                self.assertEqual([other.name for other in named].count(node.name), 1, node.name)

    def test_blocks(self):
        # What leaves a block gives attributes other attributes, and asks nothing.
        met = 0
        for path, tree in trees():
            for node in ast.walk(tree):
                if isinstance(node, ast.FunctionDef) and node.name == "__exit__":
                    met += 1
                    told = {argument.arg for argument in node.args.args[1:]}
                    for part in node.body:
                        self.assertIsInstance(part, ast.Assign, path)
                        self.assertIsInstance(part.value, ast.Attribute, path)
                    self.assertEqual(told & {part.id for part in ast.walk(node) if isinstance(part, ast.Name)}, set())
                if isinstance(node, ast.With):
                    self.assertEqual(len(node.items), 1)
                    self.assertIsInstance(node.items[0].optional_vars, ast.Name)
                # A class has a method of this name, so that no set is changed by it.
                if isinstance(node, ast.Attribute):
                    self.assertNotIn(node.attr, ("add", "discard"), path)
        self.assertEqual(met, 1)

    def test_no_circles(self):
        after = {}
        for path, tree in trees():
            name = ".".join(path.relative_to(ROOT).with_suffix("").parts)
            after[name] = [node.module for node in tree.body if isinstance(node, ast.ImportFrom)]
        while after:
            ends = [name for name, needed in after.items() if not set(needed) & set(after)]
            self.assertTrue(ends, sorted(after))
            for name in ends:
                del after[name]

    def test_strings(self):
        for path, tree in trees():
            docs = [node.body[0].value for node in ast.walk(tree)
                    if isinstance(node, (ast.Module, ast.ClassDef, ast.FunctionDef)) and ast.get_docstring(node)]
            for node in ast.walk(tree):
                if isinstance(node, ast.Constant) and isinstance(node.value, str) and node not in docs:
                    self.assertNotIn("%", node.value)
                    self.assertNotRegex(node.value, r"\b(type|typing|enum|metaclass|dataclass|overload)\b|__")

    def test_builtins(self):
        for path, tree in trees():
            for node in ast.walk(tree):
                if isinstance(node, ast.Name) and hasattr(builtins, node.id):
                    self.assertIsInstance(node.ctx, ast.Load)
                    self.assertIn(node.id, CALLED, path)

    def test_names(self):
        for path, tree in trees():
            for name in names_of(tree):
                self.assertNotIn(name, NAMES, path)
                if name.startswith("__"):
                    self.assertIn(name, METHODS, path)

    def test_classes_and_functions(self):
        for path, tree in trees():
            self.assertTrue(ast.get_docstring(tree), path)
            for node in tree.body:
                self.assertIsInstance(node, (ast.ImportFrom, ast.FunctionDef, ast.ClassDef, ast.Assign, ast.Expr))
                if isinstance(node, ast.FunctionDef):
                    self.assertEqual(node.decorator_list, [])
                    self.assertTrue(ast.get_docstring(node), node.name)
            bound = [node.name for node in tree.body if isinstance(node, (ast.FunctionDef, ast.ClassDef))]
            self.assertEqual(len(bound), len(set(bound)), path)


if __name__ == "__main__":
    unittest.main()
