"""Rules of the language that a test can see: sizes, characters and imports of the package's files."""

import ast
import unittest
from pathlib import Path

PACKAGE = Path(__file__).resolve().parent.parent / "manymakers"
LIBRARY = {"heapq", "math", "itertools"}


class Files(unittest.TestCase):
    def setUp(self):
        self.texts = {path: path.read_text(encoding="utf-8") for path in sorted(PACKAGE.glob("*.py"))}
        self.assertIn(PACKAGE / "__init__.py", self.texts)

    def test_the_folder_contains_nothing_but_files_of_python(self):
        other = {path.name for path in PACKAGE.iterdir() if path not in self.texts}
        self.assertEqual(other - {"__pycache__"}, set())

    def test_sizes_and_characters(self):
        for path, text in self.texts.items():
            with self.subTest(path.name):
                lines = text.split("\n")
                self.assertLess(len(lines), 400)
                self.assertLessEqual(max(map(len, lines)), 120)
                self.assertEqual({sign for sign in text if sign != "\n" and not " " <= sign <= "~"}, set())

    def test_no_function_is_longer_than_40_lines(self):
        for path, text in self.texts.items():
            for node in ast.walk(ast.parse(text)):
                if isinstance(node, ast.FunctionDef):
                    with self.subTest(f"{path.name}: {node.name}"):
                        self.assertLessEqual(node.end_lineno - node.lineno + 1, 40)

    def test_imports_are_of_names_of_the_package_or_the_library(self):
        for path, text in self.texts.items():
            for node in ast.walk(ast.parse(text)):
                self.assertNotIsInstance(node, ast.Import, path.name)
                if isinstance(node, ast.ImportFrom):
                    known = node.module.startswith("manymakers.") or node.module in LIBRARY
                    self.assertTrue(known and node.level == 0, f"{path.name}: {node.module}")

    def test_no_two_files_import_from_each_other(self):
        ahead = {
            f"manymakers.{path.stem}": {
                node.module for node in ast.walk(ast.parse(text)) if isinstance(node, ast.ImportFrom)
            }
            for path, text in self.texts.items()
        }
        while free := [name for name, needed in ahead.items() if not needed & set(ahead)]:
            for name in free:
                del ahead[name]
        self.assertEqual(ahead, {})
