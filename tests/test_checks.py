"""Points 2 and 4, lookmade/checks.py: what any values are."""

import unittest

from helpers import Oddity, odd_values
from lookmade.checks import is_amount, is_bit, is_integer, is_lot, is_spread, is_turn, is_within

NUMBERS = [-10 ** 5000, -10 ** 30, -100, -9, -8, -2, -1, 0, 1, 2, 6, 7, 8, 9, 100, 10 ** 30, 10 ** 5000]
ONE, NONE = (1, 0, 0, 0), (0, 0, 0, 0)


class ChecksTest(unittest.TestCase):
    def told(self, check, value, expected):
        """Asks by place and by name, and that what is passed stays."""
        before = list(value) if isinstance(value, (list, tuple, dict)) else None
        self.assertIs(check(value), expected)
        self.assertIs(check(value=value), expected)
        self.assertEqual(list(value) if before is not None else None, before)

    def test_integers(self):
        for number in NUMBERS:
            self.told(is_integer, number, True)
            self.told(is_bit, number, number in (0, 1))
            self.told(is_turn, number, 0 <= number <= 7)
            self.told(is_amount, number, False)
            self.told(is_spread, number, False)
            self.told(is_lot, number, False)

    def test_other_values(self):
        for value in odd_values():
            for check in (is_integer, is_bit, is_turn, is_amount, is_spread):
                self.told(check, value, False)
            self.told(is_lot, value, value in ([], (), [1], (1,)) and isinstance(value, (list, tuple)))

    def test_within(self):
        bounds = [None, -10 ** 30, -2, -1, 0, 1, 7, 10 ** 30]
        for value in NUMBERS:
            for least in bounds:
                for most in bounds:
                    low = least is None or least <= value
                    high = most is None or value <= most
                    self.assertIs(is_within(value, least, most), low and high)
                    self.assertIs(is_within(most=most, value=value, least=least), low and high)
        for value in odd_values():
            self.assertIs(is_within(value, None, None), False)
            self.assertIs(is_within(value, 0, 1), False)

    def test_amounts(self):
        for right in ([1, 0, -2, 5], (0, 0, 0, 0), [10 ** 30, -10 ** 30, 1, 1]):
            self.told(is_amount, right, True)
            self.told(is_amount, tuple(right), True)
            self.told(is_amount, right[:3], False)
            self.told(is_amount, [*right, 0], False)
            for at in range(4):
                for bad in odd_values():
                    spoilt = list(right)
                    spoilt[at] = bad
                    self.told(is_amount, spoilt, False)
                    self.told(is_amount, tuple(spoilt), False)
        for bad in ({0: 1, 1: 2, 2: 3, 3: 4}, {1, 2, 3, 4}, "1000", b"1000", range(4)):
            self.told(is_amount, bad, False)

    def test_spreads_of_each_size(self):
        for places in range(15):
            size = 2 ** places
            for many in (size - 1, size, size + 1):
                right = places <= 12 and many == size or many in (1, 2, 4)
                self.told(is_spread, [ONE] * many, right)
                self.told(is_spread, (list(ONE),) * many, right)
                self.told(is_spread, [NONE] * many, False)
                for at in (0, many // 2, many - 1)[:many]:
                    self.told(is_spread, [NONE] * at + [(0, 0, 0, -1)] + [NONE] * (many - at - 1), right)

    def test_spreads_with_one_amount_spoilt(self):
        for places in range(5):
            for at in range(2 ** places):
                for bad in [*odd_values(), (1, 0, 0), (1, 0, 0, 0, 0), (1, True, 0, 0), [1, 0, 0, "0"]]:
                    spoilt = [ONE] * 2 ** places
                    spoilt[at] = bad
                    self.told(is_spread, spoilt, False)
        self.told(is_spread, {0: ONE}, False)
        self.told(is_spread, ONE, False)

    def test_lots(self):
        for right in ([], [0], [4, 0], [3, 2, 1, 0], [10 ** 30, 7], list(range(50))):
            self.told(is_lot, right, True)
            self.told(is_lot, tuple(right), True)
            for at in range(len(right)):
                for bad in [*odd_values(), -1, -10 ** 30]:
                    spoilt = [*right[:at], bad, *right[at + 1:]]
                    self.told(is_lot, spoilt, False)
                self.told(is_lot, [*right, right[at]], False)
                self.told(is_lot, (right[at], *right), False)
        for bad in ({}, {1: 2}, {1}, "12", b"12", range(2), Oddity()):
            self.told(is_lot, bad, False)


if __name__ == "__main__":
    unittest.main()
