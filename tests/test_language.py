"""Some rules of the language that the package is written in: files, imports, sizes and characters."""

import ast
import unittest
from pathlib import Path

PACKAGE = Path(__file__).resolve().parent.parent / "lookcrowd"
FILES = sorted(PACKAGE.glob("*.py"))
NAMES = {path.stem for path in FILES}


class Language(unittest.TestCase):

    def test_files(self):
        others = [path.name for path in PACKAGE.iterdir() if path not in FILES and path.name != "__pycache__"]
        self.assertEqual(others, [])
        self.assertIn("__init__", NAMES)

    def test_imports(self):
        for path in FILES:
            for node in ast.walk(ast.parse(path.read_text("utf-8"))):
                self.assertNotIsInstance(node, ast.Import, path.name)
                if isinstance(node, ast.ImportFrom):
                    self.assertEqual(node.level, 0, path.name)
                    self.assertTrue(node.module.startswith("lookcrowd."), path.name)
                    self.assertIn(node.module.split(".", 1)[1], NAMES, path.name)

    def test_sizes(self):
        for path in FILES:
            text = path.read_text("utf-8")
            lines = text.split("\n")
            self.assertLessEqual(len(lines), 400, path.name)
            self.assertLessEqual(max(len(line) for line in lines), 120, path.name)
            for node in ast.walk(ast.parse(text)):
                if isinstance(node, ast.FunctionDef):
                    self.assertLessEqual(node.end_lineno - node.lineno + 1, 40, (path.name, node.name))

    def test_characters(self):
        for path in FILES:
            text = path.read_text("utf-8")
            self.assertEqual([letter for letter in text if letter != "\n" and not " " <= letter <= "~"], [], path.name)

    def test_words(self):
        """What no package may have that has a class with [..]."""
        for path in FILES:
            text = path.read_text("utf-8")
            for word in ("(type)", "Meta", "metaclass="):
                self.assertNotIn(word, text, path.name)
            for node in ast.walk(ast.parse(text)):
                self.assertNotEqual(getattr(node, "attr", None), "keys", path.name)
                self.assertNotIsInstance(node, (ast.GeneratorExp, ast.AsyncFunctionDef, ast.Global), path.name)
                if isinstance(node, (ast.FunctionDef, ast.ClassDef)):
                    self.assertNotEqual(node.name, "keys", path.name)


if __name__ == "__main__":
    unittest.main()
