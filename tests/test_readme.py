"""The program texts in README.md print what their comments say."""

import contextlib
import io
import pathlib
import re
import unittest

README = pathlib.Path(__file__).parents[1] / "README.md"


class TestReadme(unittest.TestCase):
    def test_what_is_printed(self):
        names = {}
        for code in re.findall(r"^```python\n(.*?)^```$", README.read_text(), re.S | re.M):
            printed = io.StringIO()
            with contextlib.redirect_stdout(printed):
                exec(code, names)
            expected = re.findall(r"# (.*)$", code, re.M)
            self.assertEqual(printed.getvalue().splitlines(), expected)
            self.assertEqual(code.count("print("), len(expected))
        self.assertIn("library", names)
