"""Whether the program does what README.md shows of it."""

import pathlib
import re
import unittest

ROOT = pathlib.Path(__file__).resolve().parent.parent


class Readme(unittest.TestCase):
    def test_examples(self):
        blocks = re.findall(r"```python\n(.*?)```", (ROOT / "README.md").read_text("utf-8"), re.S)
        self.assertTrue(blocks)
        shown = 0
        for block in blocks:
            names = {}
            exec(block, names)
            for line in block.splitlines():
                code, mark, told = line.partition("  # ")
                if mark and not line.startswith(" "):
                    self.assertEqual(eval(code, names), eval(told, names), line)
                    shown += 1
        self.assertGreater(shown, 0)


if __name__ == "__main__":
    unittest.main()
