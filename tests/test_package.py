"""The package as a whole: no clock, no random numbers, no files (point 3), and its form."""

import ast
import unittest
from pathlib import Path

FOLDER = Path(__file__).parent.parent / "whoseword"
FILES = sorted(FOLDER.rglob("*.py"))
LIBRARY = {"heapq", "math", "itertools", "collections"}
BARRED = {"open", "input", "print", "exec", "eval", "id", "hash"}


def trees():
    return [(file.name, ast.parse(file.read_text())) for file in FILES]


class Package(unittest.TestCase):
    def test_imports_only_itself_and_pure_functions(self):
        for name, tree in trees():
            for node in ast.walk(tree):
                self.assertNotIsInstance(node, ast.Import, name)
                if isinstance(node, ast.ImportFrom):
                    self.assertEqual(node.level, 0, name)
                    self.assertTrue(node.module.startswith("whoseword.") or node.module in LIBRARY, (name, node.module))

    def test_names_nothing_that_reaches_outside(self):
        for name, tree in trees():
            found = {node.id for node in ast.walk(tree) if isinstance(node, ast.Name)}
            self.assertEqual(found & BARRED, set(), name)

    def test_sizes_and_characters(self):
        for file in FILES:
            text = file.read_text()
            self.assertTrue(all(sign == "\n" or " " <= sign <= "~" for sign in text), file.name)
            self.assertLessEqual(len(text.splitlines()), 399, file.name)
            self.assertLessEqual(max(len(line) for line in text.splitlines()), 120, file.name)
            for node in ast.walk(ast.parse(text)):
                if isinstance(node, ast.FunctionDef):
                    self.assertLessEqual(node.end_lineno - node.lineno + 1, 40, (file.name, node.name))

    def test_there_is_nothing_else_in_the_folder(self):
        others = [path.name for path in FOLDER.rglob("*") if path.suffix not in (".py", ".pyc")]
        self.assertEqual([name for name in others if name != "__pycache__"], [])


if __name__ == "__main__":
    unittest.main()
