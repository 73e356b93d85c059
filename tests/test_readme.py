"""The examples of README.md tell what the package tells, and each module of the package is named there."""

import re
import unittest
from pathlib import Path

ROOT = Path(__file__).resolve().parent.parent


class ReadmeTest(unittest.TestCase):

    def setUp(self):
        self.text = (ROOT / "README.md").read_text("utf-8")

    def test_examples(self):
        names = {}
        checked = 0
        for block in re.findall(r"```python\n(.*?)```", self.text, re.S):
            for line in block.splitlines():
                code, mark, comment = line.partition("# ")
                if not mark:
                    exec(code, names)
                    continue
                found = repr(eval(code, names))
                self.assertRegex(comment, re.escape(found) + r"(\Z|[:;])", line)
                checked += 1
        self.assertGreater(checked, 20)

    def test_each_module_stands_in_the_table(self):
        for path in (ROOT / "twosetsums").glob("*.py"):
            if path.stem not in ("__init__", "errors"):
                self.assertIn(f"\n| `{path.stem}` |", self.text)
