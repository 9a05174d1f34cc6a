"""The rules of LANGUAGE.md that can be seen at a glance: L1, L10, L14 and L27."""

import ast
import pathlib
import unittest

PACKAGE = pathlib.Path(__file__).resolve().parent.parent / "dimcellar"
FILES = sorted(PACKAGE.glob("*.py"))


class Files(unittest.TestCase):
    def test_there_are_python_files_alone(self):
        self.assertTrue(FILES)
        others = [path.name for path in PACKAGE.iterdir() if path not in FILES and path.name != "__pycache__"]
        self.assertEqual(others, [])

    def test_plain_signs_and_short_lines(self):
        for path in FILES:
            lines = path.read_text(encoding="utf-8").split("\n")
            self.assertLessEqual(len(lines), 400, path.name)
            for at, line in enumerate(lines, 1):
                self.assertLessEqual(len(line), 120, f"{path.name}:{at}")
                self.assertTrue(all(" " <= sign <= "~" for sign in line), f"{path.name}:{at}")

    def test_short_functions_and_no_percent_in_a_text(self):
        for path in FILES:
            for node in ast.walk(ast.parse(path.read_text(encoding="utf-8"))):
                if isinstance(node, ast.FunctionDef):
                    self.assertLessEqual(node.end_lineno - node.lineno + 1, 40, f"{path.name}: {node.name}")
                if isinstance(node, ast.Constant) and isinstance(node.value, str):
                    self.assertNotIn("%", node.value, f"{path.name}:{node.lineno}")
