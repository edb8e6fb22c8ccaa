"""Tests of what the package is made of: nothing from outside, nothing but its own files."""

import ast
import pathlib
import unittest

import whocomes
from parties import ALL_OF_8, path, ring
from whocomes import party

FOLDER = pathlib.Path(whocomes.__file__).parent
FUNCTIONS = ("comes", "cancels", "depth", "sure")


class ThePackage(unittest.TestCase):
    def test_nothing_is_imported_from_outside(self):
        for file in sorted(FOLDER.glob("*.py")):
            for node in ast.walk(ast.parse(file.read_text(encoding="utf-8"))):
                self.assertNotIsInstance(node, ast.Import, file.name)
                if isinstance(node, ast.ImportFrom):
                    self.assertEqual(node.level, 0, file.name)
                    self.assertTrue(node.module.startswith("whocomes."), (file.name, node.module))

    def test_nothing_is_read_or_printed(self):
        for file in sorted(FOLDER.glob("*.py")):
            for node in ast.walk(ast.parse(file.read_text(encoding="utf-8"))):
                if isinstance(node, ast.Name):
                    self.assertNotIn(node.id, ("print", "open", "input", "__import__", "exec", "eval"), file.name)

    def test_each_function_lies_in_the_file_that_its_name_tells(self):
        for name in FUNCTIONS:
            function = getattr(party, name)
            self.assertEqual((function.__module__, function.__name__), ("whocomes.party", name))

    def test_no_call_leaves_anything_to_another(self):
        def answers():
            return [
                answer
                for n, k, bits, pairs in ((4, 2, 9, path(4)), (8, 3, 0, ALL_OF_8), (5, 2, 1, ring(5)), (9, 1, 0, []))
                for answer in (party.comes(n, k, bits, pairs), party.cancels(n, k, bits, pairs),
                               party.sure(n, k, bits, pairs), party.depth(n, pairs))
            ]

        first = answers()
        for answer in answers():
            # Whoever changes an answer must not change the next one.
            answer.clear()
        self.assertEqual(first, answers())


if __name__ == "__main__":
    unittest.main()
