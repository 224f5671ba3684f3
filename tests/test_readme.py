"""README.md: its examples are answered as it says."""

import ast
import pathlib
import re
import unittest

from otherdifferences.pairs import answers

README = pathlib.Path(__file__).resolve().parent.parent / "README.md"


class Examples(unittest.TestCase):
    def test_each_is_answered_as_told(self):
        examples = re.findall(r"^answers\((\[.*\])\)\n# (\[.*\])$", README.read_text("utf-8"), re.MULTILINE)
        self.assertEqual(len(examples), 2)
        for calls, wanted in examples:
            with self.subTest(calls=calls):
                self.assertEqual(answers(ast.literal_eval(calls)), ast.literal_eval(wanted))


if __name__ == "__main__":
    unittest.main()
