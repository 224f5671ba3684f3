"""The package's own files: what a look at them can tell of the form they keep to."""

import ast
import pathlib
import unittest

PACKAGE = pathlib.Path(__file__).resolve().parent.parent / "otherdifferences"
FILES = sorted(PACKAGE.rglob("*.py"))

OUTSIDE = {"print", "open", "input", "exec", "eval", "compile", "globals", "sys", "os", "float"}


def nodes(kind):
    """Every node of a kind in the package's files."""
    found = []
    for file in FILES:
        found.extend(node for node in ast.walk(ast.parse(file.read_text("ascii"))) if isinstance(node, kind))
    return found


class Form(unittest.TestCase):
    def test_files_and_rows_are_short_and_plain(self):
        for file in FILES:
            rows = file.read_text("ascii").split("\n")
            with self.subTest(file=file.name):
                self.assertLessEqual(len(rows), 401)
                self.assertLessEqual(max(len(row) for row in rows), 120)
                self.assertTrue(all(" " <= sign <= "~" for row in rows for sign in row))

    def test_functions_are_short(self):
        for node in nodes(ast.FunctionDef):
            with self.subTest(name=node.name):
                self.assertLessEqual(node.end_lineno - node.lineno + 1, 40)

    def test_nothing_is_imported_from_outside(self):
        self.assertEqual(nodes(ast.Import), [])
        for node in nodes(ast.ImportFrom):
            self.assertEqual(node.module.split(".")[0], "otherdifferences")

    def test_nothing_is_printed_or_read(self):
        self.assertEqual({node.id for node in nodes(ast.Name)} & OUTSIDE, set())

    def test_no_number_is_rounded(self):
        self.assertEqual(nodes(ast.Div), [])
        self.assertEqual([node.value for node in nodes(ast.Constant) if isinstance(node.value, float)], [])


if __name__ == "__main__":
    unittest.main()
