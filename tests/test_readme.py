"""The examples of README.md."""

import ast
import pathlib
import re
import unittest

README = pathlib.Path(__file__).resolve().parent.parent / "README.md"


class Examples(unittest.TestCase):
    def test_each_line_returns_what_it_says(self):
        names, told = {}, 0
        for block in re.findall(r"```python\n(.*?)```", README.read_text(), re.DOTALL):
            for statement in ast.parse(block).body:
                found = self.run_statement(block, statement, names)
                line = block.splitlines()[statement.end_lineno - 1]
                try:
                    want = ast.literal_eval(line.partition("  # ")[2].strip().split(": ")[0])
                except (SyntaxError, ValueError):
                    continue
                told += 1
                self.assertEqual(found, want, line)
        self.assertGreater(told, 30)

    def run_statement(self, block, statement, names):
        """Run a statement; return its value, or what it assigns."""
        code = ast.get_source_segment(block, statement)
        if isinstance(statement, ast.Expr):
            return eval(code, names)
        exec(code, names)
        if isinstance(statement, ast.Assign):
            return names[statement.targets[0].id]
        return None
