"""Tests that what README.md shows is what the program tells."""

import ast
import re
import unittest
from pathlib import Path

README = Path(__file__).resolve().parent.parent / "README.md"


class TestReadme(unittest.TestCase):

    def test_each_row_that_shows_an_answer(self):
        names, shown = {}, 0
        for block in re.findall(r"```python\n(.*?)```", README.read_text(), re.DOTALL):
            rows = block.splitlines()
            for statement in ast.parse(block).body:
                _, mark, answer = rows[statement.end_lineno - 1].partition("  # ")
                code = ast.unparse(statement)
                if mark and isinstance(statement, ast.Expr):
                    shown += 1
                    self.assertEqual(eval(code, names), eval(answer, names), code)
                else:
                    exec(code, names)
        self.assertGreater(shown, 50)


if __name__ == "__main__":
    unittest.main()
