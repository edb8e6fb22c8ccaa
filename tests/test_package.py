"""Tests of what the package is made of: nothing from outside, nothing but its own files."""

import ast
import pathlib
import unittest

import whocomes
from whocomes import party

FOLDER = pathlib.Path(whocomes.__file__).parent
FUNCTIONS = ("comes", "cancels", "depth")


class ThePackage(unittest.TestCase):
    def test_nothing_is_imported_from_outside(self):
        for file in sorted(FOLDER.glob("*.py")):
            for node in ast.walk(ast.parse(file.read_text(encoding="utf-8"))):
                self.assertNotIsInstance(node, ast.Import, file.name)
                if isinstance(node, ast.ImportFrom):
                    self.assertEqual(node.level, 0, file.name)
                    self.assertTrue(node.module.startswith("whocomes."), (file.name, node.module))

    def test_nothing_is_read_or_printed(self):
        for file in sorted(FOLDER.glob("*.py")):
            for node in ast.walk(ast.parse(file.read_text(encoding="utf-8"))):
                if isinstance(node, ast.Name):
                    self.assertNotIn(node.id, ("print", "open", "input", "__import__", "exec", "eval"), file.name)

    def test_each_function_lies_in_the_file_that_its_name_tells(self):
        for name in FUNCTIONS:
            function = getattr(party, name)
            self.assertEqual((function.__module__, function.__name__), ("whocomes.party", name))


if __name__ == "__main__":
    unittest.main()
