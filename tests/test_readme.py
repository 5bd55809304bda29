"""The examples of README.md."""

import ast
import pathlib
import re
import unittest

README = pathlib.Path(__file__).resolve().parent.parent / "README.md"


class Examples(unittest.TestCase):
    def test_each_line_returns_what_it_says(self):
        names, told = {}, 0
        for block in re.findall(r"```python\n(.*?)```", README.read_text(), re.DOTALL):
            exec(block, names)
            for line in block.splitlines():
                code, sign, comment = line.partition("  # ")
                if sign:
                    try:
                        want = ast.literal_eval(comment.split(": ")[0])
                    except (SyntaxError, ValueError):
                        continue
                    told += 1
                    self.assertEqual(eval(code.partition(" = ")[2] or code, names), want, line)
        self.assertGreater(told, 10)
