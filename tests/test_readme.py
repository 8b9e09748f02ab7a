"""The examples of README.md."""

import os
import re
import unittest
from contextlib import redirect_stdout
from io import StringIO

PATH = os.path.join(os.path.dirname(os.path.dirname(os.path.abspath(__file__))), "README.md")


class ReadmeTest(unittest.TestCase):
    def test_examples(self):
        with open(PATH, encoding="ascii") as file:
            blocks = re.findall("```python\n(.*?)```", file.read(), re.DOTALL)
        self.assertGreater(len(blocks), 2)
        names, printed = {}, StringIO()
        with redirect_stdout(printed):
            for block in blocks:
                exec(block, names)
        # What is printed stands behind the call, as a comment.
        told = [line.partition("  # ")[2].strip() for block in blocks for line in block.split("\n") if line.startswith("print(")]
        self.assertEqual(printed.getvalue().split("\n")[:-1], told)


if __name__ == "__main__":
    unittest.main()
