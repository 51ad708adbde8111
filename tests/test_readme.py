"""What README.md shows of the use of the package is printed just so."""

import contextlib
import io
import re
import unittest
from pathlib import Path

README = Path(__file__).resolve().parent.parent / "README.md"


class ReadmeTest(unittest.TestCase):
    def test_examples(self):
        code = "\n".join(re.findall(r"```python\n(.*?)```", README.read_text(), flags=re.S))
        # A comment behind a line that prints is what it prints; one with a full stop is none.
        expected = [line[2:] for line in code.split("\n") if line.startswith("# ") and not line.endswith(".")]
        printed = io.StringIO()
        with contextlib.redirect_stdout(printed):
            exec(code, {})
        self.assertGreater(len(expected), 10)
        self.assertEqual(printed.getvalue().rstrip("\n").split("\n"), expected)


if __name__ == "__main__":
    unittest.main()
