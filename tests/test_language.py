"""The package keeps to the plain rules of its subset of Python, as far as a short look can see."""

import ast
import builtins
import pathlib
import unittest

PACKAGE = pathlib.Path(__file__).resolve().parent.parent / "roomstair"
BUILTINS = set("""
len range enumerate zip min max sum abs sorted reversed int str bool list tuple dict set isinstance ord repr any all
divmod type staticmethod classmethod property ValueError
""".split())
LIBRARY = {"heapq", "math", "itertools", "collections"}
LEFT_OUT = (ast.AsyncFunctionDef, ast.AsyncFor, ast.AsyncWith, ast.Await, ast.Div)
DECORATORS = ("staticmethod", "classmethod", "property")
# With an own class that has __eq__, these take a list instead of a generator expression.
OF_LISTS = ("any", "all", "min", "max", "sum", "sorted")
METHODS = {"__init__", "__eq__", "__repr__", "__str__", "__len__", "__bool__"}


def sources():
    """The files of the package, with their texts."""
    return [(path, path.read_text(encoding="utf-8")) for path in sorted(PACKAGE.rglob("*.py"))]


def trees():
    """The names of the modules, with their trees."""
    return [(path.stem, ast.parse(text)) for path, text in sources()]


def functions(tree):
    """All functions and methods of a file."""
    return [node for node in ast.walk(tree) if isinstance(node, ast.FunctionDef)]


def bound_names(function):
    """The parameters and local variables of a function."""
    names = [node.arg for node in ast.walk(function) if isinstance(node, ast.arg)]
    return names + [node.id for node in ast.walk(function) if isinstance(node, ast.Name) and isinstance(node.ctx, ast.Store)]


class Language(unittest.TestCase):
    def test_the_folder_holds_python_files_alone(self):
        for path in PACKAGE.rglob("*"):
            if "__pycache__" not in path.parts:
                self.assertRegex(path.name, r"^[a-z_][a-z0-9_]*\.py$")
        self.assertTrue((PACKAGE / "__init__.py").is_file())

    def test_characters_and_sizes(self):
        for path, text in sources():
            with self.subTest(path.name):
                self.assertEqual([sign for sign in text if sign != "\n" and not " " <= sign <= "~"], [])
                self.assertLessEqual(len(text.split("\n")), 399)
                self.assertLessEqual(max(map(len, text.split("\n"))), 120)
                self.assertFalse("%" in text)

    def test_functions_are_short(self):
        for name, tree in trees():
            for node in functions(tree):
                self.assertLessEqual(node.end_lineno - node.lineno + 1, 40, (name, node.name))

    def test_modules_hold_definitions_and_plain_values_alone(self):
        for name, tree in trees():
            self.assertTrue(ast.get_docstring(tree), name)
            for node in tree.body[1:]:
                self.assertIsInstance(node, (ast.ImportFrom, ast.FunctionDef, ast.ClassDef, ast.Assign), name)
                if isinstance(node, ast.Assign):
                    self.look_at_value(node, [each.name for each in functions(tree) if each.end_lineno < node.lineno])

    def look_at_value(self, node, known):
        """See that a module-level name is assigned a plain value, or a dict of functions that are defined above."""
        if isinstance(node.value, ast.Dict) and all(isinstance(each, ast.Name) for each in node.value.values):
            self.assertEqual({each.id for each in node.value.values} - set(known), set())
            self.assertTrue(all(isinstance(each, ast.Constant) for each in node.value.keys))
        else:
            ast.literal_eval(node.value)

    def test_imports_are_from_the_package_alone_and_in_no_ring(self):
        imported = {name: [node.module for node in tree.body if isinstance(node, ast.ImportFrom)] for name, tree in trees()}
        for name, modules in imported.items():
            for module in modules:
                self.assertTrue(module.startswith("roomstair.") or module in LIBRARY, (name, module))
        left = {name: {module.partition(".")[2] for module in modules} for name, modules in imported.items()}
        while left:
            ready = [name for name, needs in left.items() if not needs & set(left)]
            self.assertTrue(ready, left)
            left = {name: needs for name, needs in left.items() if name not in ready}
        self.assertEqual(imported["__init__"], [])

    def test_constructs_that_are_left_out(self):
        for name, tree in trees():
            for node in ast.walk(tree):
                self.assertNotIsInstance(node, LEFT_OUT, name)
                if isinstance(node, ast.Constant):
                    self.assertNotIsInstance(node.value, (float, complex), name)
                if isinstance(node, (ast.FunctionDef, ast.ClassDef)):
                    for each in node.decorator_list:
                        self.assertIn(ast.unparse(each), DECORATORS, name)
                if isinstance(node, ast.FunctionDef) and node.name.startswith("__"):
                    self.assertIn(node.name, METHODS, name)

    def test_lists_are_passed_instead_of_generator_expressions(self):
        for name, tree in trees():
            for node in ast.walk(tree):
                if isinstance(node, ast.Call) and isinstance(node.func, ast.Name) and node.func.id in OF_LISTS:
                    self.assertFalse([each for each in node.args if isinstance(each, ast.GeneratorExp)], name)

    def test_builtins_are_those_that_are_allowed(self):
        for name, tree in trees():
            used = {node.id for node in ast.walk(tree) if isinstance(node, ast.Name)}
            self.assertEqual({each for each in used if hasattr(builtins, each)} - BUILTINS, set(), name)

    def test_no_name_has_two_meanings(self):
        for name, tree in trees():
            taken = {alias.name for node in tree.body if isinstance(node, ast.ImportFrom) for alias in node.names}
            taken |= {node.name for node in tree.body if isinstance(node, (ast.ClassDef, ast.FunctionDef))}
            for node in functions(tree):
                for each in bound_names(node):
                    self.assertNotIn(each, taken, (name, node.name))
                    self.assertFalse(hasattr(builtins, each), (name, node.name, each))


if __name__ == "__main__":
    unittest.main()
