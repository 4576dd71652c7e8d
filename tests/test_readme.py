"""Whether the program does what README.md shows of it."""

import ast
import pathlib
import re
import unittest

ROOT = pathlib.Path(__file__).resolve().parent.parent


class Readme(unittest.TestCase):
    def test_examples(self):
        blocks = re.findall(r"```python\n(.*?)```", (ROOT / "README.md").read_text("utf-8"), re.S)
        self.assertTrue(blocks)
        names = {}
        shown = 0
        for block in blocks:
            lines = block.splitlines()
            for part in ast.parse(block).body:
                # The value of a line stands behind it, as a comment.
                _, mark, told = lines[part.end_lineno - 1].partition("  # ")
                if isinstance(part, ast.Expr) and mark:
                    found = eval(compile(ast.Expression(part.value), "README.md", "eval"), names)
                    self.assertEqual(found, eval(told, names), lines[part.end_lineno - 1])
                    shown += 1
                else:
                    exec(compile(ast.Module([part], []), "README.md", "exec"), names)
        self.assertGreater(shown, 0)


if __name__ == "__main__":
    unittest.main()
