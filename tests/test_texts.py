"""Point 2, texts: how an integer is written, and what item is told of a text that cannot stand."""

import unittest

from helpers import odd_values, raised
from lookmade.texts import integer_in, read_end, read_integer, read_item, read_word, rows_of


class IntegerTest(unittest.TestCase):
    def test_written(self):
        for number in [*range(-120, 120), 10 ** 59, 10 ** 60 - 1, 1 - 10 ** 60]:
            self.assertEqual(integer_in(str(number)), number)

    def test_not_written_so(self):
        for item in [
            "", "-", "+", "+1", "--1", "-0", "00", "01", "-01", "0" * 60, " 1", "1 ", "1\n", "1.0", "1_0", "0x1", "1e3", "x",
            "1x", "\u0661", "\u00b2", "\uff11", str(10 ** 60), str(-10 ** 60), "9" * 61, "-" + "9" * 61, "1" * 20000,
        ]:
            self.assertIsNone(integer_in(item), item)

    def test_within(self):
        for number in range(-4, 5):
            expected = None if -2 <= number <= 3 else ("BadText", 0, 1)
            self.assertEqual(raised(read_integer, [["x", str(number)]], 0, 1, -2, 3), expected)
        self.assertEqual(read_integer([["-2"]], 0, 0, -2, 3), -2)
        self.assertEqual(raised(read_integer, [["x", "-0"]], 0, 1, -2, 3), ("BadText", 0, 1))


class ItemTest(unittest.TestCase):
    def test_rows(self):
        self.assertEqual(rows_of(""), [[""]])
        self.assertEqual(rows_of("a b\n\n c  d\n"), [["a", "b"], [""], ["", "c", "", "d"], [""]])
        self.assertEqual(rows_of("a\tb\r\nc\x0bd"), [["a\tb\r"], ["c\x0bd"]])
        for bad in [*odd_values(), 3, ["a"]]:
            if not isinstance(bad, str):
                self.assertEqual(raised(rows_of, bad), ("BadText", 0, 0))

    def test_missing(self):
        rows = [["a", "b"], ["c"]]
        self.assertEqual(read_item(rows, 0, 1), "b")
        self.assertEqual(raised(read_item, rows, 0, 2), ("BadText", 0, 2))
        self.assertEqual(raised(read_item, rows, 1, 1), ("BadText", 1, 1))
        self.assertEqual(raised(read_item, rows, 2, 0), ("BadText", 2, 0))

    def test_words_and_ends(self):
        rows = [["a", "b"], ["c"]]
        self.assertIsNone(raised(read_word, rows, 1, "c"))
        self.assertEqual(raised(read_word, rows, 1, "a"), ("BadText", 1, 0))
        self.assertIsNone(raised(read_end, rows, 0, 2))
        self.assertEqual(raised(read_end, rows, 0, 1), ("BadText", 0, 1))


if __name__ == "__main__":
    unittest.main()
