"""The rules of the language that a look at the files can tell."""

import ast
import builtins
import re
import unittest
from pathlib import Path

PACKAGE = Path(__file__).resolve().parent.parent / "algebraparts"
FILES = sorted(path for path in PACKAGE.iterdir() if path.name != "__pycache__")

# A doctest that ran before may have left the name _ among them.
BUILTINS = set(vars(builtins)) - {"_"}
ALLOWED_BUILTINS = {
    "len", "range", "enumerate", "zip", "min", "max", "sum", "abs", "sorted", "reversed", "int", "str", "bool", "list",
    "tuple", "dict", "set", "isinstance", "ord", "repr", "any", "all", "divmod", "super", "iter", "Exception",
    "ValueError",
    "TypeError", "KeyError", "IndexError",
}
ALLOWED_METHODS = {"__init__", "__eq__", "__str__", "__repr__", "__len__", "__iter__"}
BARRED_WORDS = ("type", "typing", "enum", "Enum", "Flag", "Generic", "Protocol", "ABC", "namedtuple", "elements",
                "register", "mro", "open", "input", "law", "global", "async", "lambda x, y")
BARRED_NODES = (
    ast.Global, ast.AsyncFunctionDef, ast.AsyncFor, ast.AsyncWith, ast.Await, ast.Div, ast.MatMult, ast.Pow,
    ast.SetComp,
    ast.Set, ast.Import,
)


def trees():
    for path in FILES:
        yield path, ast.parse(path.read_text())


def bound_names(function):
    """The names of the parameters and variables of a function."""
    names = [argument.arg for argument in ast.walk(function) if isinstance(argument, ast.arg)]
    return names + [node.id for node in ast.walk(function)
                    if isinstance(node, ast.Name) and isinstance(node.ctx, ast.Store)]


class LanguageTest(unittest.TestCase):

    def test_files(self):
        for path in FILES:
            self.assertRegex(path.name, r"^[a-z_]+\.py$")
            text = path.read_text()
            self.assertNotIn("\t", text)
            self.assertTrue(all(letter == "\n" or " " <= letter <= "~" for letter in text), path.name)
            lines = text.split("\n")
            self.assertLessEqual(len(lines), 399)
            self.assertTrue(all(len(line) <= 120 for line in lines), path.name)
            self.assertTrue(all(line == line.rstrip() for line in lines), path.name)

    def test_sizes_of_functions(self):
        for path, tree in trees():
            for node in ast.walk(tree):
                if isinstance(node, ast.FunctionDef):
                    self.assertLessEqual(node.end_lineno - node.lineno + 1, 40, node.name)
                    self.assertEqual(node.decorator_list, [])

    def test_module_level(self):
        for path, tree in trees():
            bound = []
            for node in tree.body:
                if isinstance(node, ast.Expr):
                    self.assertIsInstance(node.value, ast.Constant)
                elif isinstance(node, ast.Assign):
                    bound += [target.id for target in node.targets]
                elif isinstance(node, ast.ImportFrom):
                    self.assertEqual(node.level, 0)
                    self.assertTrue(node.module.startswith("algebraparts."), node.module)
                    self.assertTrue(all(alias.asname is None for alias in node.names))
                    bound += [alias.name for alias in node.names]
                else:
                    self.assertIsInstance(node, (ast.FunctionDef, ast.ClassDef))
                    bound.append(node.name)
            self.assertEqual(len(bound), len(set(bound)), path.name)

    def test_imports_name_the_file_that_defines(self):
        defined = {path.stem: {node.name for node in tree.body if isinstance(node, (ast.FunctionDef, ast.ClassDef))}
                   | {target.id for node in tree.body if isinstance(node, ast.Assign) for target in node.targets}
                   for path, tree in trees()}
        for path, tree in trees():
            for node in ast.walk(tree):
                if isinstance(node, ast.ImportFrom):
                    for alias in node.names:
                        self.assertIn(alias.name, defined[node.module.rpartition(".")[2]])
                        used = [name for name in ast.walk(tree) if isinstance(name, ast.Name) and name.id == alias.name]
                        self.assertTrue(used, (path.name, alias.name))

    def test_statements_and_values(self):
        for path, tree in trees():
            for node in ast.walk(tree):
                self.assertNotIsInstance(node, BARRED_NODES, (path.name, getattr(node, "lineno", 0)))
                if isinstance(node, ast.Constant):
                    self.assertNotIsInstance(node.value, (float, complex))
                if isinstance(node, ast.FunctionDef) and node.name.startswith("__"):
                    self.assertIn(node.name, ALLOWED_METHODS)

    def test_names(self):
        for path, tree in trees():
            imported = {alias.name for node in tree.body if isinstance(node, ast.ImportFrom) for alias in node.names}
            classes = {node.name for node in tree.body if isinstance(node, ast.ClassDef)}
            generators = {"members", "all_elements", "units"}
            for node in ast.walk(tree):
                if isinstance(node, ast.FunctionDef):
                    for name in bound_names(node):
                        self.assertNotIn(name, imported | classes | generators, (path.name, node.name))
                        self.assertNotIn(name, BUILTINS, (path.name, node.name))
                        self.assertRegex(name, r"^(_|[a-z][a-z0-9_]*)$")
                if isinstance(node, ast.Name) and node.id in BUILTINS:
                    self.assertIn(node.id, ALLOWED_BUILTINS)

    def test_words(self):
        for path in FILES:
            text = re.sub(r'"""(.|\n)*?"""|#.*', "", path.read_text())
            for word in BARRED_WORDS:
                self.assertIsNone(re.search(rf"\b{word}\b", text), (path.name, word))
            self.assertNotIn("%", "".join(re.findall(r'"[^"\n]*"', text)))

    def test_no_generator_expressions(self):
        # The package has a class with __eq__, so any, all, sum, min, max and sorted take lists.
        for path, tree in trees():
            for node in ast.walk(tree):
                self.assertNotIsInstance(node, ast.GeneratorExp, path.name)


if __name__ == "__main__":
    unittest.main()
