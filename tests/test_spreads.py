"""Point 4, spreads, and lookmade/spreads.py."""

import unittest
from itertools import permutations, product

from helpers import Steps, as_lists, odd_values, raised
from lookmade.amounts import added, length_of, mirrored, multiplied, turned
from lookmade.spreads import (
    are_alike, beside, even, exchanged, grown, is_even, length, looked, mixed, of_bits, placed, places_in, plain_form,
    shares, signed, tied, turned_at,
)

NOTHING, ONE = (0, 0, 0, 0), (1, 0, 0, 0)
NO_SPREADS = [
    *odd_values(), 3, ONE, (ONE, ONE, ONE), (ONE, (1, 0, 0)), [ONE, True], [NOTHING], [NOTHING] * 4, {0: ONE},
    [ONE] * 4095, [ONE] * 4097, [ONE] * 8192,
]


def table(spread):
    """The spread as a dict from rows of bits, the bit of place 0 first."""
    places = len(spread).bit_length() - 1
    return {tuple(at >> place & 1 for place in range(places)): tuple(amount) for at, amount in enumerate(spread)}


def listed(known):
    """The spread that a dict from rows of bits tells."""
    places = len(next(iter(known)))
    rows = [tuple(at >> place & 1 for place in range(places)) for at in range(2 ** places)]
    return tuple(known[row] for row in rows)


def with_bit(row, place, bit):
    return (*row[:place], bit, *row[place + 1:])


def told(found, places, rule):
    """The spread of which rule tells the amount of each row of bits of the spread found."""
    return listed({row: rule(table(found), row) for row in product((0, 1), repeat=places)})


def negative(amount):
    return tuple(-number for number in amount)


def total(spread):
    lengths = [length_of(amount) for amount in spread]
    return (sum(p for p, _ in lengths), sum(q for _, q in lengths))


def sums(one, other):
    return (one[0] + other[0], one[1] + other[1])


class PlaceTest(unittest.TestCase):
    """What is done at a place, told over again row by row."""

    def setUp(self):
        steps = Steps(11)
        self.spreads = [steps.spread(places, size) for places in range(6) for size in (1, 4, 10 ** 29)]
        self.spreads += [even(places) for places in range(5)] + [of_bits(bits) for bits in ((), (1,), (0, 1, 1))]

    def each_place(self):
        for spread in self.spreads:
            many = places_in(spread)
            for place in range(many):
                yield spread, many, place

    def both(self, call, spread, expected, *args):
        before = as_lists(spread)
        passed = as_lists(spread)
        self.assertEqual(call(spread, *args), expected)
        self.assertEqual(call(passed, *args), expected)
        self.assertEqual(passed, before)

    def test_turned_and_signed(self):
        for spread, many, place in self.each_place():
            for turn in range(8):
                def rule(known, row):
                    return turned(known[row], turn) if row[place] else known[row]
                self.both(turned_at, spread, told(spread, many, rule), place, turn)
            self.both(signed, spread, turned_at(spread, place, 4), place)
            self.assertEqual(length(signed(spread, place)), length(spread))

    def test_exchanged(self):
        for spread, many, place in self.each_place():
            def rule(known, row):
                return known[with_bit(row, place, 1 - row[place])]
            self.both(exchanged, spread, told(spread, many, rule), place)
            self.assertEqual(exchanged(exchanged(spread, place), place), spread)

    def test_mixed(self):
        for spread, many, place in self.each_place():
            def rule(known, row):
                x, y = known[with_bit(row, place, 0)], known[with_bit(row, place, 1)]
                return added(x, negative(y) if row[place] else y)
            self.both(mixed, spread, told(spread, many, rule), place)
            self.assertEqual(length(mixed(spread, place)), sums(length(spread), length(spread)))
            twice = tuple(added(amount, amount) for amount in spread)
            self.assertEqual(mixed(mixed(spread, place), place), twice)

    def test_tied(self):
        for spread, many, one in self.each_place():
            for other in range(many):
                if one == other:
                    self.assertEqual(raised(tied, spread, one, other), ("Misfit", "other"))
                    continue

                def rule(known, row):
                    return negative(known[row]) if row[one] and row[other] else known[row]
                self.both(tied, spread, told(spread, many, rule), one, other)
                self.assertEqual(tied(tied(spread, one, other), other, one), spread)

    def test_looked_and_shares(self):
        for spread, many, place in self.each_place():
            for turn in range(8):
                lengths = []
                for fall in (0, 1):
                    known = table(spread)
                    rest = {}
                    for row in product((0, 1), repeat=many - 1):
                        x, y = known[(*row[:place], 0, *row[place:])], known[(*row[:place], 1, *row[place:])]
                        rest[row] = added(x, turned(y, (turn + 4 * fall) % 8))
                    expected = listed(rest)
                    lengths.append(total(expected))
                    if lengths[-1] == (0, 0):
                        expected = None
                    self.both(looked, spread, expected, place, turn, fall)
                self.both(shares, spread, tuple(lengths), place, turn)
                self.both(is_even, spread, lengths == [length(spread)] * 2, place, turn)
                whole = length(spread)
                self.assertEqual(sums(*lengths), sums(whole, whole))


class GreatTest(unittest.TestCase):
    """Spreads of up to twelve places, at each place."""

    def test_each_place_of_great_spreads(self):
        steps = Steps(5)
        for many in (7, 9, 12):
            spread = steps.spread(many, 10 ** 29)
            self.assertEqual(places_in(spread), many)
            self.assertEqual(length(spread), total(spread))
            for place in range(many):
                bit = 1 << place
                turn = place % 8
                found = turned_at(spread, place, turn)
                self.assertEqual(found[bit:2 * bit], tuple(turned(amount, turn) for amount in spread[bit:2 * bit]))
                self.assertEqual(found[:bit], spread[:bit])
                self.assertEqual(exchanged(spread, place)[:bit], spread[bit:2 * bit])
                self.assertEqual(mixed(spread, place)[0], added(spread[0], spread[bit]))
                self.assertEqual(signed(signed(spread, place), place), spread)
                self.assertEqual(len(looked(spread, place, turn, 1)), len(spread) // 2)
                if place > 0:
                    self.assertEqual(tied(spread, 0, place)[bit + 1], negative(spread[bit + 1]))

    def test_twelve_even_places(self):
        for place in range(12):
            self.assertEqual(looked(even(12), place, 0, 0), tuple((2, 0, 0, 0) for _ in range(2048)))
            self.assertIsNone(looked(even(12), place, 0, 1))
            self.assertEqual(shares(even(12), place, 4), ((0, 0), (8192, 0)))
            self.assertIs(is_even(even(12), place, 2), True)
            self.assertIs(is_even(even(12), place, 0), False)


class FormTest(unittest.TestCase):
    """The plain form, and what is alike."""

    def spreads(self):
        steps = Steps(23)
        drawn = [steps.spread(places, size) for places in (0, 1, 2, 3) for size in (1, 2, 6, 10 ** 20)]
        return [*drawn, (NOTHING, (0, 2, 0, 0)), (NOTHING, NOTHING, (0, 0, -6, 0), (3, 0, 0, 9))]

    def test_form(self):
        for spread in self.spreads():
            plain = plain_form(spread)
            firsts = [at for at, amount in enumerate(spread) if amount != NOTHING]
            self.assertEqual([at for at, amount in enumerate(plain) if amount != NOTHING], firsts)
            self.assertGreater(plain[firsts[0]][0], 0)
            self.assertEqual(plain[firsts[0]][1:], (0, 0, 0))
            for divisor in range(2, 50):
                self.assertFalse(all(number % divisor == 0 for amount in plain for number in amount))
            for one, other in zip(plain, spread):
                for more, still in zip(plain, spread):
                    self.assertEqual(multiplied(one, still), multiplied(more, other))
            self.assertEqual(plain_form(plain), plain)
            self.assertEqual(plain_form(as_lists(spread)), plain)

    def test_form_does_not_hang_on_a_factor(self):
        steps = Steps(7)
        factors = [(0, 0, 0, -1), (2, 0, 0, 0), (1, 1, 0, 0), (0, 1, 0, -1), (3, -2, 5, 1), (-7, 0, 0, 0)]
        factors += [steps.amount(10 ** 15) for _ in range(4)]
        for spread in self.spreads():
            for factor in factors:
                again = tuple(multiplied(amount, factor) for amount in spread)
                self.assertEqual(plain_form(again), plain_form(spread))
                self.assertIs(are_alike(spread, again), True)
                self.assertIs(are_alike(other=as_lists(spread), one=as_lists(again)), True)

    def test_great_form(self):
        spread = Steps(3).spread(12, 10 ** 29)
        again = tuple(multiplied(amount, (3, 1, -4, 1)) for amount in spread)
        self.assertIs(are_alike(spread, again), True)
        self.assertIs(are_alike(spread, (*again[:-1], added(again[-1], ONE))), False)

    def test_unlike(self):
        for one in self.spreads():
            for other in self.spreads():
                if len(one) != len(other):
                    self.assertEqual(raised(are_alike, one, other), ("Misfit", "size"))
                    continue
                crossed = all(
                    multiplied(one[i], other[j]) == multiplied(one[j], other[i])
                    for i in range(len(one)) for j in range(len(one))
                )
                self.assertIs(are_alike(one, other), crossed)
        self.assertIs(are_alike((ONE, NOTHING), (NOTHING, ONE)), False)
        self.assertIs(are_alike((ONE, ONE), (ONE, negative(ONE))), False)
        # The mirrored amount has the same length, but is not alike beside another one.
        self.assertIs(are_alike((ONE, (1, 2, 0, 0)), (ONE, mirrored((1, 2, 0, 0)))), False)


class MadeTest(unittest.TestCase):
    """Spreads that are made, and put together."""

    def test_even(self):
        for many in range(13):
            self.assertEqual(even(many), (ONE,) * 2 ** many)
            self.assertEqual(places_in(even(many=many)), many)
        for bad in [*odd_values(), -1, 13, 10 ** 30]:
            self.assertEqual(raised(even, bad), ("BadNumber", "many"))

    def test_of_bits(self):
        for many in range(6):
            for bits in product((0, 1), repeat=many):
                found = table(of_bits(bits))
                self.assertEqual({row for row, amount in found.items() if amount == ONE}, {bits})
                self.assertEqual(sum(amount == NOTHING for amount in found.values()), 2 ** many - 1)
                self.assertEqual(of_bits(bits=list(bits)), of_bits(bits))
        self.assertEqual(of_bits([1] * 12)[4095], ONE)
        for bad in [*odd_values(), 5, [2], [-1], [0, True], [0, "1"], [0] * 13, "01", {0: 1}, range(2)]:
            if bad not in ([], (), [1], (1,)):
                self.assertEqual(raised(of_bits, bad), ("BadNumber", "bits"))

    def test_beside_and_grown(self):
        steps = Steps(2)
        for first in range(4):
            for second in range(4):
                one, other = steps.spread(first), steps.spread(second)
                expected = {a + b: multiplied(x, y) for a, x in table(one).items() for b, y in table(other).items()}
                self.assertEqual(beside(one, other), listed(expected))
                self.assertEqual(beside(other=as_lists(other), one=as_lists(one)), listed(expected))
            self.assertEqual(grown(one), beside(one, even(1)))
            self.assertEqual(grown(spread=as_lists(one)), one + one)

    def test_too_many_places(self):
        self.assertEqual(len(beside(even(7), even(5))), 4096)
        for first in range(13):
            for second in range(13 - first, 13):
                self.assertEqual(raised(beside, even(first), even(second)), ("TooMany", "places", 12))
        self.assertEqual(len(grown(even(11))), 4096)
        self.assertEqual(raised(grown, even(12)), ("TooMany", "places", 12))

    def test_placed(self):
        for many in range(5):
            spread = Steps(many).spread(many)
            for order in permutations(range(many)):
                def rule(known, row):
                    source = [0] * many
                    for new, old in enumerate(order):
                        source[old] = row[new]
                    return known[tuple(source)]
                self.assertEqual(placed(spread, order), told(spread, many, rule))
                self.assertEqual(placed(order=list(order), spread=as_lists(spread)), told(spread, many, rule))
            bad = [None, 0, True, "0", {0: 0}, [many], [-1], [*range(many), 0], list(range(many + 1)), [0] * many + [0]]
            bad += [[*range(many - 1), True], [None] * many] if many else []
            bad += [list(range(many - 1)), [0] * many] if many > 1 else []
            for order in bad:
                if order != list(range(many)):
                    self.assertEqual(raised(placed, spread, order), ("BadOrder", "order"))
        self.assertEqual(placed(of_bits([1] + [0] * 11), list(range(11, -1, -1))), of_bits([0] * 11 + [1]))

    def test_sizes_and_lengths(self):
        for many in range(13):
            self.assertEqual(places_in(of_bits([0] * many)), many)
            self.assertEqual(length(even(many)), (2 ** many, 0))
        self.assertEqual(length(spread=[[1, 1, 0, 0], [0, 1, 0, -1]]), (4, 1))


class WrongTest(unittest.TestCase):
    """Each argument spoilt, alone and beside others."""

    def setUp(self):
        self.two = even(2)

    def test_no_spreads(self):
        calls = {
            places_in: (), length: (), plain_form: (), grown: (), placed: ([0, 1],), turned_at: (0, 1), signed: (0,),
            exchanged: (0,), mixed: (0,), tied: (0, 1), looked: (0, 0, 0), shares: (0, 0), is_even: (0, 0),
        }
        for bad in NO_SPREADS:
            for call, rest in calls.items():
                self.assertEqual(raised(call, bad, *rest), ("BadSpread", "spread"))
                self.assertEqual(raised(call, bad, *[None for _ in rest]), ("BadSpread", "spread"))
            for call in (are_alike, beside):
                self.assertEqual(raised(call, bad, self.two), ("BadSpread", "one"))
                self.assertEqual(raised(call, self.two, bad), ("BadSpread", "other"))
                self.assertEqual(raised(call, bad, bad), ("BadSpread", "one"))

    def test_no_places(self):
        for bad in [*odd_values(), -1, 2, 12, 10 ** 30]:
            self.assertEqual(raised(turned_at, self.two, bad, 1), ("BadNumber", "place"))
            self.assertEqual(raised(turned_at, self.two, bad, 8), ("BadNumber", "place"))
            for call in (signed, exchanged, mixed):
                self.assertEqual(raised(call, self.two, bad), ("BadNumber", "place"))
            self.assertEqual(raised(looked, self.two, bad, 9, 9), ("BadNumber", "place"))
            self.assertEqual(raised(shares, self.two, bad, 9), ("BadNumber", "place"))
            self.assertEqual(raised(is_even, self.two, bad, None), ("BadNumber", "place"))
            self.assertEqual(raised(tied, self.two, bad, 0), ("BadNumber", "one"))
            self.assertEqual(raised(tied, self.two, 0, bad), ("BadNumber", "other"))
            self.assertEqual(raised(tied, self.two, bad, bad), ("BadNumber", "one"))
        for call in (signed, exchanged, mixed):
            self.assertEqual(raised(call, even(0), 0), ("BadNumber", "place"))
        self.assertEqual(raised(looked, even(0), 0, 0, 0), ("BadNumber", "place"))
        self.assertEqual(raised(tied, even(1), 0, 1), ("BadNumber", "other"))

    def test_no_turns_and_falls(self):
        for bad in [*odd_values(), -1, 8, 10 ** 30]:
            for call in (turned_at, shares, is_even):
                self.assertEqual(raised(call, self.two, 1, bad), ("BadNumber", "turn"))
            self.assertEqual(raised(looked, self.two, 1, bad, bad), ("BadNumber", "turn"))
            self.assertEqual(raised(looked, self.two, 1, 7, bad), ("BadNumber", "fall"))
        self.assertEqual(raised(looked, self.two, 1, 7, 2), ("BadNumber", "fall"))

    def test_the_first_of_two_wrong_ones(self):
        self.assertEqual(raised(placed, [NOTHING], [3]), ("BadSpread", "spread"))
        self.assertEqual(raised(looked, turn=9, fall=2, place=2, spread=self.two), ("BadNumber", "place"))
        self.assertEqual(raised(looked, fall=2, turn=9, place=1, spread=self.two), ("BadNumber", "turn"))
        self.assertEqual(raised(tied, self.two, 2, 2), ("BadNumber", "one"))
        self.assertEqual(raised(are_alike, even(1), 5), ("BadSpread", "other"))
        self.assertEqual(raised(beside, even(12), 5), ("BadSpread", "other"))

    def test_by_name(self):
        self.assertEqual(turned_at(turn=1, place=0, spread=even(1)), (ONE, (0, 1, 0, 0)))
        self.assertEqual(tied(other=0, one=1, spread=self.two), tied(self.two, 0, 1))
        self.assertEqual(looked(fall=0, turn=0, place=0, spread=even(1)), ((2, 0, 0, 0),))
        self.assertEqual(shares(turn=0, place=0, spread=even(1)), ((4, 0), (0, 0)))
        self.assertIs(is_even(turn=0, place=0, spread=even(1)), False)
        for call in (signed, exchanged, mixed):
            self.assertEqual(call(place=1, spread=self.two), call(self.two, 1))


if __name__ == "__main__":
    unittest.main()
