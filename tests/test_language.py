"""Tests of the package's code against those rules of LANGUAGE.md that a parse tree shows."""

import ast
import builtins
import os
import re
import unittest

ROOT = os.path.join(os.path.dirname(os.path.dirname(os.path.abspath(__file__))), "deckwork")
BUILTINS = set("""len range enumerate zip min max sum abs sorted reversed int str bool bytes list tuple dict set
    frozenset isinstance ord repr any all divmod pow getattr hasattr setattr iter next map super property staticmethod
    classmethod Exception ValueError TypeError KeyError IndexError LookupError ZeroDivisionError ArithmeticError
    OverflowError RuntimeError NotImplementedError AttributeError StopIteration NotImplemented""".split())
EVERY_BUILTIN = set(dir(builtins))
METHODS = set("""append clear copy count endswith extend find get index insert isalnum isalpha isdigit islower isspace
    isupper items join keys ljust lower lstrip partition pop remove replace reverse rfind rjust rpartition rsplit rstrip
    setdefault split splitlines startswith strip update upper values zfill bit_length sort add discard""".split())
BARRED_NAMES = {"register", "mro", "elements", "open", "input", "law", "version_info", "with_traceback", "add_note"}
BARRED_WORDS = ("type", "typing", "enum", "Enum", "Generic", "Protocol", "ABC", "namedtuple", "NamedTuple")
STATEMENTS = (ast.Assign, ast.AugAssign, ast.If, ast.While, ast.For, ast.Return, ast.Break, ast.Continue, ast.Pass,
              ast.Raise, ast.Assert, ast.Delete, ast.Nonlocal, ast.Match, ast.With, ast.Try, ast.Expr,
              ast.FunctionDef, ast.ClassDef, ast.ImportFrom)
LIBRARY = ("heapq", "math", "itertools", "collections")


def read_files():
    """Return {path below the package: text}."""
    files = {}
    for folder, _, names in os.walk(ROOT):
        if os.path.basename(folder) == "__pycache__":
            continue
        for name in names:
            path = os.path.join(folder, name)
            with open(path, encoding="utf-8", newline="") as file:
                files[os.path.relpath(path, ROOT)] = file.read()
    return files


def bound_names(tree):
    """Return the names that a file gives to anything."""
    names = [node.id for node in ast.walk(tree) if isinstance(node, ast.Name) and not isinstance(node.ctx, ast.Load)]
    names += [node.arg for node in ast.walk(tree) if isinstance(node, (ast.arg, ast.keyword)) and node.arg]
    names += [node.name for node in ast.walk(tree) if isinstance(node, (ast.FunctionDef, ast.ClassDef))]
    return names


class LanguageTest(unittest.TestCase):
    @classmethod
    def setUpClass(cls):
        cls.files = read_files()
        cls.trees = {path: ast.parse(text) for path, text in cls.files.items()}

    def test_files(self):
        self.assertIn("__init__.py", self.files)
        for path in self.files:
            self.assertRegex(path, r"\A([a-z][a-z0-9_]*|__init__|__main__)\.py\Z")

    def test_sizes_and_characters(self):
        for path, text in self.files.items():
            with self.subTest(path=path):
                lines = text.split("\n")
                self.assertLessEqual(len(lines), 399)
                self.assertLessEqual(max(map(len, lines)), 120)
                self.assertTrue(all(" " <= character <= "~" or character == "\n" for character in text))

    def test_function_sizes(self):
        for path, tree in self.trees.items():
            for node in ast.walk(tree):
                if isinstance(node, ast.FunctionDef):
                    self.assertLessEqual(node.end_lineno - node.lineno + 1, 40, (path, node.name))

    def test_statements(self):
        for path, tree in self.trees.items():
            for node in ast.walk(tree):
                if isinstance(node, ast.stmt):
                    self.assertIsInstance(node, STATEMENTS, (path, node.lineno))
                self.assertNotIsInstance(node, (ast.Div, ast.Await), path)
                if isinstance(node, ast.Constant):
                    self.assertNotIsInstance(node.value, (float, complex), path)

    def test_module_level(self):
        for path, tree in self.trees.items():
            names = []
            for node in tree.body:
                if isinstance(node, ast.Expr):
                    self.assertTrue(isinstance(node.value, ast.Constant) and node is tree.body[0], (path, node.lineno))
                elif isinstance(node, ast.Assign):
                    self.assertEqual([target.__class__ for target in node.targets], [ast.Name], (path, node.lineno))
                    names.append(node.targets[0].id)
                elif isinstance(node, ast.ImportFrom):
                    names.extend(alias.asname or alias.name for alias in node.names)
                else:
                    self.assertIsInstance(node, (ast.FunctionDef, ast.ClassDef), (path, node.lineno))
                    names.append(node.name)
            self.assertEqual(len(names), len(set(names)), path)

    def test_imports(self):
        for path, tree in self.trees.items():
            for node in ast.walk(tree):
                if isinstance(node, ast.ImportFrom):
                    self.assertIn(node, tree.body, path)
                    self.assertEqual(node.level, 0, path)
                    self.assertTrue(node.module.split(".")[0] in ("deckwork",) + LIBRARY, (path, node.module))
                    if node.module.startswith("deckwork"):
                        self.assert_defines(node.module.split(".")[1] + ".py", [alias.name for alias in node.names])

    def assert_defines(self, path, names):
        body = self.trees[path].body
        defined = [node.name for node in body if isinstance(node, (ast.FunctionDef, ast.ClassDef))]
        defined += [node.targets[0].id for node in body if isinstance(node, ast.Assign)]
        for name in names:
            self.assertIn(name, defined, path)

    def test_names(self):
        for path, tree in self.trees.items():
            imported = [alias.name for node in tree.body if isinstance(node, ast.ImportFrom) for alias in node.names]
            for name in bound_names(tree):
                self.assertRegex(name, r"\A(_?[A-Za-z][A-Za-z0-9_]*|_|__init__|__slots__)\Z", path)
                self.assertNotIn(name, BARRED_NAMES, path)
                self.assertNotIn(name, EVERY_BUILTIN - {"key", "reverse", "default", "start"}, path)
                self.assertNotIn(name, imported, path)
            for node in ast.walk(tree):
                if isinstance(node, ast.Name) and node.id in EVERY_BUILTIN:
                    self.assertIn(node.id, BUILTINS, (path, node.lineno))

    def test_methods(self):
        own = [node.name for tree in self.trees.values() for node in ast.walk(tree) if isinstance(node, ast.FunctionDef)]
        for path, tree in self.trees.items():
            for node in ast.walk(tree):
                if isinstance(node, ast.Call) and isinstance(node.func, ast.Attribute):
                    self.assertIn(node.func.attr, METHODS | set(own), (path, node.lineno))

    def test_generators_are_called_only(self):
        for path, tree in self.trees.items():
            for node in tree.body:
                if isinstance(node, ast.FunctionDef) and any(isinstance(part, ast.Yield) for part in ast.walk(node)):
                    others = [part.name for tree in self.trees.values() for part in ast.walk(tree)
                              if isinstance(part, ast.FunctionDef) and part is not node]
                    self.assertNotIn(node.name, others, path)

    def test_comparisons_by_identity(self):
        for path, tree in self.trees.items():
            for node in ast.walk(tree):
                if isinstance(node, ast.Compare) and isinstance(node.ops[0], (ast.Is, ast.IsNot)):
                    self.assertIsInstance(node.comparators[0], ast.Constant, (path, node.lineno))

    def test_strings(self):
        for path, tree in self.trees.items():
            for node in ast.walk(tree):
                if isinstance(node, ast.Constant) and isinstance(node.value, str):
                    self.assertNotIn("%", node.value, (path, node.lineno))

    def test_words_that_must_not_occur(self):
        for path, text in self.files.items():
            for word in BARRED_WORDS:
                self.assertIsNone(re.search(rf"\b{word}\b", text), (path, word))


if __name__ == "__main__":
    unittest.main()
