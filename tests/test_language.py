"""What can be seen simply of the rules for the files of the package (L1, L2, L10, L14)."""

import ast
import os
import unittest

import callbells

FOLDER = os.path.dirname(os.path.abspath(callbells.__file__))
LIBRARY = ("heapq", "math", "itertools", "collections", "__future__")


def files():
    """The names and texts of the files of the package."""
    told = []
    for name in sorted(os.listdir(FOLDER)):
        if name != "__pycache__":
            with open(os.path.join(FOLDER, name), encoding="utf-8") as file:
                told.append((name, file.read()))
    return told


class LanguageTest(unittest.TestCase):
    def test_files(self):
        names = [name for name, _ in files()]
        self.assertIn("__init__.py", names)
        for name in names:
            self.assertRegex(name, r"^[a-z0-9_]+\.py$")

    def test_characters_and_lengths(self):
        for name, text in files():
            with self.subTest(name=name):
                self.assertTrue(all(c == "\n" or " " <= c <= "~" for c in text))
                self.assertLessEqual(text.count("\n"), 399)
                self.assertLessEqual(max(len(row) for row in text.split("\n")), 120)

    def test_functions(self):
        for name, text in files():
            for node in ast.walk(ast.parse(text)):
                if isinstance(node, ast.FunctionDef):
                    with self.subTest(name=name, function=node.name):
                        self.assertLessEqual(node.end_lineno - node.lineno + 1, 40)

    def test_imports(self):
        for name, text in files():
            for node in ast.walk(ast.parse(text)):
                self.assertNotIsInstance(node, (ast.Import, ast.Global))
                if isinstance(node, ast.ImportFrom):
                    self.assertIn(node.module.split(".")[0], ("callbells",) + LIBRARY, name)


if __name__ == "__main__":
    unittest.main()
