"""The examples of README.md."""

import contextlib
import io
import os
import re
import unittest

README = os.path.join(os.path.dirname(os.path.dirname(os.path.abspath(__file__))), "README.md")


class ReadmeTest(unittest.TestCase):
    def test_the_examples_print_what_they_tell(self):
        """What a line prints stands behind it, or in the comments below it."""
        with open(README, encoding="utf-8") as held:
            blocks = re.findall(r"```python\n(.*?)```", held.read(), re.S)
        self.assertGreater(len(blocks), 5)
        names = {}
        for block in blocks:
            printed = io.StringIO()
            with contextlib.redirect_stdout(printed):
                exec(block, names)
            told = re.findall(r"# (.*)$", block, re.M)
            lines = [line for line in printed.getvalue().split("\n") if line]
            self.assertEqual([line.strip() for line in lines], [line.strip() for line in told])


if __name__ == "__main__":
    unittest.main()
