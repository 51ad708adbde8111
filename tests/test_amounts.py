"""Point 4, first paragraph, and lookmade/amounts.py."""

import unittest

from helpers import Steps, as_lists, odd_values, raised
from lookmade.amounts import added, length_of, mirrored, multiplied, turned

NO_AMOUNTS = [*odd_values(), 5, (1, 0, 0), [1, 0, 0, 0, 0], (1, 0, 0, True), (None, 0, 0, 0), (1, 0, "0", 0), [[1], 0, 0, 0]]


def product_by_places(one, other):
    """Powers of w told apart, then brought down by w to the 4 being -1."""
    powers = [0] * 8
    for i, x in enumerate(one):
        for j, y in enumerate(other):
            powers[i + j] += x * y
    return tuple(powers[k] - powers[k + 4] for k in range(4))


def length_product(one, other):
    return (one[0] * other[0] + 2 * one[1] * other[1], one[0] * other[1] + one[1] * other[0])


def amounts():
    steps = Steps(4)
    units = [tuple(int(at == place) for at in range(4)) for place in range(4)]
    drawn = [steps.amount(size) for size in (1, 3, 50, 10 ** 15, 10 ** 30) for _ in range(4)]
    return [(0, 0, 0, 0), (1, 1, 1, 1), (0, 1, 0, -1), *units, *drawn]


class AmountsTest(unittest.TestCase):
    def test_sums_and_products(self):
        for one in amounts():
            for other in amounts():
                total = tuple(x + y for x, y in zip(one, other))
                self.assertEqual(added(one, other), total)
                self.assertEqual(added(as_lists(one), other=as_lists(other)), total)
                product = product_by_places(one, other)
                self.assertEqual(multiplied(one, other), product)
                self.assertEqual(multiplied(other=as_lists(other), one=as_lists(one)), product)
                self.assertEqual(length_of(product), length_product(length_of(one), length_of(other)))

    def test_w_to_the_fourth(self):
        w = (0, 1, 0, 0)
        self.assertEqual(multiplied(multiplied(w, w), multiplied(w, w)), (-1, 0, 0, 0))

    def test_turned(self):
        for amount in amounts():
            expected = amount
            for turn in range(8):
                self.assertEqual(turned(amount, turn), expected)
                self.assertEqual(turned(turn=turn, amount=list(amount)), expected)
                self.assertEqual(length_of(expected), length_of(amount))
                expected = product_by_places(expected, (0, 1, 0, 0))
            self.assertEqual(expected, amount)

    def test_mirrored_and_length(self):
        for amount in amounts():
            a, b, c, d = amount
            self.assertEqual(mirrored(amount), (a, -d, -c, -b))
            self.assertEqual(mirrored(amount=list(amount)), (a, -d, -c, -b))
            p, q = length_of(amount)
            self.assertEqual(length_of(amount=list(amount)), (p, q))
            self.assertEqual((p, q), (a * a + b * b + c * c + d * d, a * b + b * c + c * d - d * a))
            self.assertEqual(product_by_places(amount, mirrored(amount)), (p, q, 0, -q))

    def test_great_lengths(self):
        n = 123456789012345678901234567890
        self.assertEqual(length_of((n, n, n, -n)), (4 * n * n, 2 * n * n))
        self.assertEqual(length_of((-n, 0, 0, n)), (2 * n * n, n * n))

    def test_tuples_come_back(self):
        for found in (added([1] * 4, [2] * 4), multiplied([1] * 4, [2] * 4), turned([1] * 4, 0), mirrored([1] * 4)):
            self.assertIs(type(found), tuple)
        self.assertIs(type(length_of([1] * 4)), tuple)

    def test_no_amounts(self):
        good = (1, 2, 3, 4)
        for bad in NO_AMOUNTS:
            for reckon in (added, multiplied):
                self.assertEqual(raised(reckon, bad, good), ("BadAmount", "one"))
                self.assertEqual(raised(reckon, good, bad), ("BadAmount", "other"))
                self.assertEqual(raised(reckon, bad, bad), ("BadAmount", "one"))
                self.assertEqual(raised(reckon, other=bad, one=bad), ("BadAmount", "one"))
            self.assertEqual(raised(turned, bad, 1), ("BadAmount", "amount"))
            self.assertEqual(raised(turned, bad, 8), ("BadAmount", "amount"))
            self.assertEqual(raised(mirrored, bad), ("BadAmount", "amount"))
            self.assertEqual(raised(length_of, bad), ("BadAmount", "amount"))

    def test_no_turns(self):
        for bad in [*odd_values(), 8, -1, 10 ** 30, -10 ** 30]:
            self.assertEqual(raised(turned, (1, 2, 3, 4), bad), ("BadNumber", "turn"))

    def test_what_is_passed_stays(self):
        one, other = [1, 2, 3, 4], [5, 6, 7, 8]
        added(one, other), multiplied(one, other), turned(one, 3), mirrored(one), length_of(one)
        self.assertEqual((one, other), ([1, 2, 3, 4], [5, 6, 7, 8]))


if __name__ == "__main__":
    unittest.main()
