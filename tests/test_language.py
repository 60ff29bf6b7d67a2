"""Sizes, characters and imports of the package's files, by ../shared/LANGUAGE.md."""

import ast
import os
import unittest

PACKAGE = os.path.join(os.path.dirname(os.path.dirname(os.path.abspath(__file__))), "sharedlines")
LIBRARY = ("heapq", "math", "itertools", "collections")


def sources():
    """Pairs of the name and the text of each file of the package."""
    found = []
    for name in sorted(os.listdir(PACKAGE)):
        if name != "__pycache__":
            with open(os.path.join(PACKAGE, name), encoding="utf-8", newline="") as file:
                found.append((name, file.read()))
    return found


class Language(unittest.TestCase):
    def test_only_python_files(self):
        names = [name for name, _ in sources()]
        self.assertIn("__init__.py", names)
        self.assertTrue(all(name.endswith(".py") for name in names))

    def test_sizes_and_characters(self):
        for name, text in sources():
            with self.subTest(name):
                lines = text.split("\n")
                self.assertLessEqual(len(lines), 399)
                self.assertLessEqual(max(len(line) for line in lines), 120)
                self.assertTrue(all(" " <= sign <= "~" or sign == "\n" for sign in text))

    def test_functions_are_small_and_imports_are_own(self):
        for name, text in sources():
            for node in ast.walk(ast.parse(text)):
                with self.subTest(name, line=getattr(node, "lineno", 0)):
                    if isinstance(node, ast.FunctionDef):
                        self.assertLessEqual(node.end_lineno - node.lineno + 1, 40)
                    self.assertNotIsInstance(node, ast.Import)
                    if isinstance(node, ast.ImportFrom):
                        self.assertIn(node.module.split(".")[0], ("sharedlines",) + LIBRARY)


if __name__ == "__main__":
    unittest.main()
