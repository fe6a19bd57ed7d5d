"""Tests that what README.md shows is what the program tells."""

import re
import unittest
from pathlib import Path

README = Path(__file__).resolve().parent.parent / "README.md"


class TestReadme(unittest.TestCase):

    def test_each_row_that_shows_an_answer(self):
        names, shown = {}, 0
        for block in re.findall(r"```python\n(.*?)```", README.read_text(), re.DOTALL):
            exec(block, names)
            for row in block.splitlines():
                code, mark, answer = row.partition("  # ")
                if mark and code.strip():
                    shown += 1
                    self.assertEqual(eval(code, names), eval(answer, names), row)
        self.assertGreater(shown, 20)


if __name__ == "__main__":
    unittest.main()
