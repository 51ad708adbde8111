"""Each example of the document gives what is written behind it."""

import importlib
import unittest

from examples import EXAMPLES
from lookmade.errors import LookError


def steps_of(text):
    """The pairs of what is told and what is expected, "" for nothing."""
    found = []
    for line in text.strip().split("\n"):
        if line.startswith(">>> "):
            found.append([line[4:], ""])
        elif line:
            found[-1][1] += line
    return found


def shown(error):
    """An error as the document writes it with its fields."""
    fields = ", ".join(repr(field) for field in vars(error).values())
    return f"{type(error).__name__}({fields})" if fields else type(error).__name__


class ExamplesTest(unittest.TestCase):
    def check(self, told, expected, names):
        if expected == "":
            exec(told, names)
        elif expected.startswith("raises "):
            with self.assertRaises(LookError) as caught:
                eval(told, names)
            told_fields = shown(caught.exception) if "(" in expected else type(caught.exception).__name__
            self.assertEqual(told_fields, expected[7:])
        else:
            self.assertEqual(repr(eval(told, names)), expected)

    def test_examples(self):
        names = {}
        count = 0
        for module, text in EXAMPLES:
            names.update(vars(importlib.import_module(f"lookmade.{module}")))
            for told, expected in steps_of(text) if text.strip() else []:
                with self.subTest(module=module, told=told):
                    self.check(told, expected, names)
                count += 1
        self.assertEqual(count, sum(text.count(">>> ") for _, text in EXAMPLES))
        self.assertGreater(count, 30)


if __name__ == "__main__":
    unittest.main()
