"""What holds for every file of the package: point 1, and the rules of the language that a test can see."""

import ast
import builtins
import pathlib
import unittest

PACKAGE = pathlib.Path(__file__).resolve().parent.parent / "frametally"

# What may be imported beside the package's own modules (rule L2).
LIBRARY = {"heapq", "math", "itertools", "collections"}

# The builtins of rule L8 that a function may use; none of them reads a clock, a file or chance.
BUILTINS = set(
    "len range enumerate zip min max sum abs sorted reversed int str bool bytes list tuple dict set frozenset "
    "isinstance ord repr any all divmod pow getattr hasattr setattr iter next map type super object property "
    "staticmethod classmethod Exception ValueError TypeError KeyError IndexError LookupError ZeroDivisionError "
    "ArithmeticError OverflowError RuntimeError NotImplementedError AttributeError StopIteration NotImplemented".split()
)


def texts():
    """The pairs (name, text) of the package's files."""
    return [(path.name, path.read_text(encoding="utf-8")) for path in sorted(PACKAGE.rglob("*.py"))]


def trees():
    return [(name, ast.parse(text)) for name, text in texts()]


def defined(tree):
    """The names that a file itself binds at module level."""
    found = []
    for node in tree.body:
        if isinstance(node, (ast.FunctionDef, ast.ClassDef)):
            found.append(node.name)
        if isinstance(node, ast.Assign):
            found.extend(target.id for target in node.targets)
    return found


def imported(tree):
    """The names of the modules that a file imports; a leading dot is kept."""
    found = []
    for node in ast.walk(tree):
        if isinstance(node, ast.Import):
            found.extend(alias.name for alias in node.names)
        if isinstance(node, ast.ImportFrom):
            found.append("." * node.level + (node.module or ""))
    return found


class PackageTest(unittest.TestCase):
    def test_the_folder_holds_python_files_alone(self):
        self.assertTrue((PACKAGE / "__init__.py").is_file())
        for path in PACKAGE.rglob("*"):
            # The interpreter makes this folder; git ignores it.
            if "__pycache__" not in path.parts:
                self.assertEqual(path.suffix, ".py", path)
                self.assertFalse(path.name.startswith("test"), path)

    def test_size(self):
        for name, text in texts():
            lines = text.split("\n")
            self.assertLessEqual(len(lines), 399, name)
            self.assertLessEqual(max(map(len, lines)), 120, name)
        for name, tree in trees():
            for node in ast.walk(tree):
                if isinstance(node, ast.FunctionDef):
                    self.assertLessEqual(node.end_lineno - node.lineno + 1, 40, (name, node.name))

    def test_characters(self):
        for name, text in texts():
            strange = [sign for sign in text if sign != "\n" and not " " <= sign <= "~"]
            self.assertEqual(strange, [], name)

    def test_imports(self):
        for name, tree in trees():
            for module in imported(tree):
                first = module.split(".")[0]
                self.assertTrue(first == "frametally" or first in LIBRARY, (name, module))

    def test_a_name_is_imported_from_the_file_that_defines_it(self):
        names = {"frametally." + name.removesuffix(".py"): defined(tree) for name, tree in trees()}
        for name, tree in trees():
            for node in tree.body:
                if isinstance(node, ast.ImportFrom) and node.module in names:
                    for alias in node.names:
                        self.assertIn(alias.name, names[node.module], (name, node.module))

    def test_no_two_files_import_from_each_other(self):
        left = {"frametally." + name.removesuffix(".py"): imported(tree) for name, tree in trees()}
        while left:
            # A file that imports none of those that are left is in no circle.
            done = [name for name, modules in left.items() if not set(modules) & set(left)]
            self.assertNotEqual(done, [], sorted(left))
            left = {name: modules for name, modules in left.items() if name not in done}

    def test_no_builtin_but_those_of_the_rules(self):
        others = set(dir(builtins)) - BUILTINS
        for name, tree in trees():
            used = {node.id for node in ast.walk(tree) if isinstance(node, ast.Name)}
            self.assertEqual(sorted(used & others), [], name)

    def test_no_float(self):
        for name, tree in trees():
            for node in ast.walk(tree):
                self.assertNotIsInstance(node, ast.Div, name)
                if isinstance(node, ast.Constant):
                    self.assertNotIsInstance(node.value, (float, complex), name)

    def test_no_state_at_module_level(self):
        plain = (ast.ImportFrom, ast.FunctionDef, ast.ClassDef, ast.Assign, ast.Expr)
        for name, tree in trees():
            for node in tree.body:
                self.assertIsInstance(node, plain, name)
                if isinstance(node, ast.Expr):
                    self.assertIsInstance(node.value, ast.Constant, name)
            for node in ast.walk(tree):
                self.assertNotIsInstance(node, ast.Global, name)


if __name__ == "__main__":
    unittest.main()
