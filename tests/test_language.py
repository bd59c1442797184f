"""Those rules of LANGUAGE.md for the package that are told from a file's text at once."""

import ast
import builtins
import pathlib
import re
import unittest
import warnings

PACKAGE = pathlib.Path(__file__).resolve().parent.parent / "trialcopies"
SOURCES = sorted(PACKAGE.rglob("*.py"))
NEVER_NAMES = ("register", "mro", "elements", "open", "input", "law", "version_info")


class LanguageTest(unittest.TestCase):
    def test_the_folder_contains_nothing_else(self):
        self.assertIn(PACKAGE / "__init__.py", SOURCES)
        for path in PACKAGE.rglob("*"):
            if "__pycache__" not in path.parts:
                self.assertRegex(path.name, r"^[a-z0-9_]+\.py$")

    def test_sizes_and_characters(self):
        for path in SOURCES:
            lines = path.read_text(encoding="utf-8").split("\n")
            self.assertLessEqual(len(lines), 400, path.name)
            for number, line in enumerate(lines, 1):
                with self.subTest(f"{path.name}:{number}"):
                    self.assertLessEqual(len(line), 120)
                    self.assertRegex(line, r"^[ -~]*$")

    def test_no_warnings(self):
        for path in SOURCES:
            with warnings.catch_warnings():
                warnings.simplefilter("error")
                compile(path.read_text(encoding="utf-8"), str(path), "exec")

    def test_functions_are_short(self):
        for path in SOURCES:
            for node in ast.walk(ast.parse(path.read_text(encoding="utf-8"))):
                if isinstance(node, ast.FunctionDef):
                    with self.subTest(f"{path.name}: {node.name}"):
                        self.assertLessEqual(node.end_lineno - node.lineno + 1, 40)

    def test_imports_are_those_of_the_language(self):
        for path in SOURCES:
            for node in ast.walk(ast.parse(path.read_text(encoding="utf-8"))):
                self.assertNotIsInstance(node, ast.Import, path.name)
                if isinstance(node, ast.ImportFrom):
                    self.assertRegex(node.module, r"^(trialcopies\.[a-z_]+|heapq|math|itertools|collections)$", path.name)
                    self.assertEqual(node.level, 0)

    def test_names_have_one_meaning(self):
        # No parameter or variable has the name of a builtin, or of an import, a class or a function of its file.
        for path in SOURCES:
            tree = ast.parse(path.read_text(encoding="utf-8"))
            own = {alias.name for node in tree.body if isinstance(node, ast.ImportFrom) for alias in node.names}
            own |= {node.name for node in tree.body if isinstance(node, (ast.ClassDef, ast.FunctionDef))}
            names = [node for node in ast.walk(tree) if isinstance(node, ast.Name)]
            used = {node.id for node in names if isinstance(node.ctx, ast.Store)}
            used |= {node.arg for node in ast.walk(tree) if isinstance(node, ast.arg)}
            self.assertEqual(used & own, set(), path.name)
            self.assertEqual((used | own) & set(dir(builtins)), set(), path.name)

    def test_no_name_is_a_method_and_an_attribute(self):
        methods, attributes = set(), set()
        for path in SOURCES:
            for node in ast.walk(ast.parse(path.read_text(encoding="utf-8"))):
                if isinstance(node, ast.ClassDef):
                    methods |= {row.name for row in node.body if isinstance(row, ast.FunctionDef)}
                if isinstance(node, ast.Attribute) and isinstance(node.ctx, ast.Store):
                    attributes.add(node.attr)
        self.assertEqual(methods & attributes, set())

    def test_names_and_values_that_are_not_used(self):
        for path in SOURCES:
            for node in ast.walk(ast.parse(path.read_text(encoding="utf-8"))):
                names = [getattr(node, field, None) for field in ("id", "attr", "arg", "name")]
                for name in names:
                    self.assertNotIn(name, NEVER_NAMES, path.name)
                self.assertNotIsInstance(node, (ast.Div, ast.AsyncFunctionDef), path.name)
                if isinstance(node, ast.Constant):
                    self.assertNotIsInstance(node.value, (float, complex), path.name)
                    if isinstance(node.value, str):
                        self.assertIsNone(re.search("%", node.value), path.name)
