"""Nets begun, bare ends and lengths: against a sum over all bits of all that is looked at."""

import unittest
from itertools import permutations, product

from helpers import Oddity, Steps, as_lists, drawn_list, drawn_net, odd_values, raised
from lookmade.looks import bare_end, bare_lengths, begun
from lookmade.nets import Net, aside_nets, joined_nets
from lookmade.spreads import even, of_bits, plain_form, tied
from trials import left_of, length

ONE, NONE = (1, 0, 0, 0), (0, 0, 0, 0)


def whole_turns(net, order, falls):
    return [(thing, dict(net.turns)[thing] + 4 * fall) for thing, fall in zip(order, falls)]


def long_end(net, spread, order, falls):
    """The bare end, all bits being added at once; None if nothing is left."""
    found = left_of(net, spread, range(net.things), whole_turns(net, order, falls), net.kept)
    return plain_form(found) if any(any(amount) for amount in found) else None


def long_lengths(net, spread, order, falls):
    found = []
    for many in range(len(order) + 1):
        left = [thing for thing in range(net.things) if thing not in order[:many]]
        found.append(length(left_of(net, spread, range(net.things), whole_turns(net, order[:many], falls), left)))
    return tuple(found)


def drawn_cases(start, many, things=5):
    """Nets with spreads, orders and falls that look drawn."""
    steps = Steps(start)
    for _ in range(many):
        net = drawn_net(steps, steps.between(1, things), given=steps.below(8), kept=steps.below(11))
        spread = of_bits([steps.below(2) for _ in net.given]) if steps.below(3) else steps.spread(len(net.given), 2)
        order = drawn_list(steps, net.looked, 10)
        yield net, spread, order, [steps.below(2) for _ in order]


class BegunTest(unittest.TestCase):
    def test_against_the_sum(self):
        for net, spread, _, _ in drawn_cases(1, 150):
            self.assertEqual(begun(net, spread), left_of(net, spread, range(net.things), [], range(net.things)))

    def test_just_as_it_comes(self):
        net = Net(2, [(0, 1)], [1], [0], [(1, 0)])
        self.assertEqual(begun(net, [(6, 0, 0, 0), [0, 3, 0, 9]]),
                         ((6, 0, 0, 0), (6, 0, 0, 0), (0, 3, 0, 9), (0, -3, 0, -9)))

    def test_given_in_any_order(self):
        spread = tuple((at, 0, 0, 0) for at in range(1, 9))
        for order in permutations(range(3)):
            found = begun(Net(3, [], order, [0, 1, 2], []), spread)
            for at, amount in enumerate(found):
                self.assertEqual(amount[0] - 1, sum((at >> thing & 1) << place for place, thing in enumerate(order)))

    def test_nothing_given(self):
        net = Net(2, [(1, 0)], [], [], [(0, 0), (1, 0)])
        self.assertEqual(begun(net, [(0, 5, 0, 0)]), ((0, 5, 0, 0), (0, 5, 0, 0), (0, 5, 0, 0), (0, -5, 0, 0)))

    def test_twelve_and_thirteen_things(self):
        strings = [(0, 11), (4, 7)]
        net = Net(12, strings, range_list(12), range_list(12), [])
        self.assertEqual(begun(net, even(12)), tied(tied(even(12), 0, 11), 4, 7))
        full = Net(12, [(low, high) for high in range(12) for low in range(high)], [5], [], dict.fromkeys(range(12), 3))
        found = begun(full, [ONE, (0, 1, 0, 0)])
        for at in (0, 32, 33, 4095, 0b101101):
            ties = bin(at).count("1") * (bin(at).count("1") - 1) // 2
            sign = (-1) ** ties
            self.assertEqual(found[at], (0, sign, 0, 0) if at >> 5 & 1 else (sign, 0, 0, 0))
        wide = Net(13, [], [0], range_list(13), [])
        self.assertEqual(raised(begun, wide, even(1)), ("TooMany", "things", 12))
        self.assertEqual(raised(begun, wide, even(2)), ("Misfit", "given"))
        self.assertEqual(raised(bare_end, wide, even(1), [], []), ("TooMany", "things", 12))
        self.assertEqual(raised(bare_lengths, wide, even(1), [], []), ("TooMany", "things", 12))


def range_list(many):
    return list(range(many))


class BareEndTest(unittest.TestCase):
    def test_against_the_sum(self):
        missed = 0
        for net, spread, order, falls in drawn_cases(2, 250):
            found = bare_end(net, spread, order, falls)
            self.assertEqual(found, long_end(net, spread, order, falls), str(net))
            missed += found is None
        self.assertGreater(missed, 5)

    def test_the_same_in_all_orders(self):
        for net, spread, order, falls in drawn_cases(3, 40, 4):
            told = dict(zip(order, falls))
            ends = {bare_end(net, spread, other, [told[thing] for thing in other]) for other in permutations(order)}
            self.assertEqual(len(ends), 1)

    def test_kept_in_any_order(self):
        spread = tuple((at, 0, 0, 0) for at in range(1, 9))
        for order in permutations(range(3)):
            found = bare_end(Net(3, [], [0, 1, 2], order, []), spread, [], [])
            for at, amount in enumerate(found):
                self.assertEqual(amount[0] - 1, sum((at >> place & 1) << thing for place, thing in enumerate(order)))

    def test_a_thing_given_and_kept_among_others(self):
        net = Net(4, [(0, 1), (1, 3), (2, 3)], [3, 1], [1, 2], [(0, 1), (3, 6)])
        for falls in product((0, 1), repeat=2):
            for bits in product((0, 1), repeat=2):
                spread = of_bits(bits)
                self.assertEqual(bare_end(net, spread, [3, 0], falls), long_end(net, spread, [3, 0], falls))

    def test_told_as_plain_form(self):
        net = Net(1, [], [0], [0], [])
        self.assertEqual(bare_end(net, [(0, 0, 0, 0), (0, 8, 0, 0)], [], []), (NONE, ONE))
        self.assertEqual(bare_end(Net(1, [], [], [], [(0, 0)]), [(-7, 0, 0, 0)], [0], [0]), (ONE,))

    def test_falls_that_never_come(self):
        # Thing 0 is given, so a fall of it may be out of reach; each lone even thing by 0 never falls 1.
        net = Net(3, [], [], [], [(0, 0), (1, 0), (2, 1)])
        for order in permutations(range(3)):
            for falls in product((0, 1), repeat=3):
                told = dict(zip(order, falls))
                comes = told[0] == 0 and told[1] == 0
                self.assertEqual(bare_end(net, [ONE], order, falls) is not None, comes)
                lengths = bare_lengths(net, [ONE], order, falls)
                first = min([at for at in range(3) if order[at] < 2 and falls[at] == 1], default=3)
                self.assertEqual([one == (0, 0) for one in lengths], [at > first for at in range(4)])

    def test_joined_nets(self):
        steps = Steps(5)
        for _ in range(60):
            one, other = (drawn_net(steps, steps.between(1, 3), given=6, kept=5) for _ in range(2))
            if len(one.kept) != len(other.given):
                continue
            net = joined_nets(one, other)
            spread = steps.spread(len(one.given), 3)
            first, second = [steps.below(2) for _ in one.looked], [steps.below(2) for _ in other.looked]
            between = bare_end(one, spread, one.looked, first)
            told = bare_end(other, between, other.looked, second) if between else None
            if between:
                self.assertEqual(bare_end(net, spread, net.looked, joined_falls(one, other, net, first, second)), told)

    def test_aside(self):
        one = Net(2, [(0, 1)], [0], [1], [(0, 1)])
        net = aside_nets(one, one)
        self.assertEqual(bare_end(net, even(2), [2, 0], [0, 0])[0], ONE)


def joined_falls(one, other, net, first, second):
    """The falls of the joined net's looked things, ascending."""
    names, fresh = [], one.things
    for thing in range(other.things):
        names.append(one.kept[other.given.index(thing)] if thing in other.given else fresh)
        fresh += thing not in other.given
    told = {**dict(zip(one.looked, first)), **{names[thing]: fall for thing, fall in zip(other.looked, second)}}
    return [told[thing] for thing in net.looked]


class BareLengthsTest(unittest.TestCase):
    def test_against_the_sum(self):
        for net, spread, order, falls in drawn_cases(4, 200):
            self.assertEqual(bare_lengths(net, spread, order, falls), long_lengths(net, spread, order, falls))

    def test_both_falls_are_twice_what_was(self):
        for net, spread, order, falls in drawn_cases(6, 60):
            for at in range(len(order)):
                one, other = (bare_lengths(net, spread, order, [*falls[:at], fall, *falls[at + 1:]]) for fall in (0, 1))
                told = tuple(a + b for a, b in zip(one[at + 1], other[at + 1]))
                self.assertEqual(told, tuple(2 * a for a in one[at]))

    def test_kinds(self):
        found = bare_lengths(Net(1, [], [0], [], [(0, 1)]), [[1, 0, 0, 0], [1, 1, 0, 0]], [0], [1])
        self.assertEqual(found, ((3, 1), (3, 0)))
        self.assertIsInstance(found, tuple)
        self.assertIsInstance(found[0], tuple)


class ErrorsTest(unittest.TestCase):
    net = Net(3, [(0, 1), (1, 2)], [0], [2], [(0, 1), (1, 0)])

    def test_net(self):
        for value in (*odd_values(), "things 1", ((3, [], [0], [2], []),), Net):
            self.assertEqual(raised(begun, value, None), ("BadNet", "net"))
            self.assertEqual(raised(bare_end, value, None, None, None), ("BadNet", "net"))
            self.assertEqual(raised(bare_lengths, value, None, None, None), ("BadNet", "net"))

    def test_spread(self):
        bad = (*odd_values(), [NONE, NONE], [ONE] * 3, ONE, [ONE, (1, 0, 0)], [ONE, (True, 0, 0, 0)], [ONE, (1.0, 0, 0, 0)],
               {0: ONE, 1: ONE}, [ONE] * 8192)
        for value in bad:
            self.assertEqual(raised(begun, self.net, value), ("BadSpread", "spread"))
            self.assertEqual(raised(bare_end, self.net, value, None, None), ("BadSpread", "spread"))
            self.assertEqual(raised(bare_lengths, self.net, value, None, None), ("BadSpread", "spread"))

    def test_order(self):
        bad = (*odd_values(), [0], [1, 1], [0, 2], [0, 1, 2], [0, True], [0, 1.0], ["0", 1], [0, -1], {0: 0, 1: 1}, "01",
               [0, [1]], [0, Oddity()])
        for value in bad:
            self.assertEqual(raised(bare_end, self.net, even(2), value, None), ("BadOrder", "order"))
            self.assertEqual(raised(bare_lengths, self.net, even(2), value, None), ("BadOrder", "order"))

    def test_falls(self):
        bad = (*odd_values(), [0], [0, 0, 0], [0, 2], [0, True], [False, 0], [0, 1.0], [0, -1], ["0", 0], {0: 0, 1: 0}, "00",
               [(0, 0), (1, 0)], [0, None])
        for value in bad:
            self.assertEqual(raised(bare_end, self.net, even(2), [1, 0], value), ("BadFalls", "falls"))
            self.assertEqual(raised(bare_lengths, self.net, even(2), [1, 0], value), ("BadFalls", "falls"))

    def test_misfit(self):
        for spread in (even(0), even(2), even(12)):
            self.assertEqual(raised(begun, self.net, spread), ("Misfit", "given"))
            self.assertEqual(raised(bare_end, self.net, spread, [1, 0], [0, 0]), ("Misfit", "given"))
            self.assertEqual(raised(bare_lengths, self.net, spread, [1, 0], [0, 0]), ("Misfit", "given"))

    def test_nothing_looked_at(self):
        net = Net(1, [], [0], [0], [])
        for value in (None, {}, "", 0, [0]):
            self.assertEqual(raised(bare_end, net, even(1), value, []), ("BadOrder", "order"))
            self.assertEqual(raised(bare_end, net, even(1), [], value), ("BadFalls", "falls"))
        self.assertEqual(bare_lengths(net, even(1), (), ()), ((2, 0),))

    def test_lists_names_and_copies(self):
        for net, spread, order, falls in drawn_cases(7, 20):
            told = (as_lists(spread), list(order), list(falls))
            kept = (as_lists(spread), list(order), list(falls))
            self.assertEqual(bare_end(net=net, spread=told[0], order=told[1], falls=told[2]),
                             bare_end(net, spread, tuple(order), tuple(falls)))
            self.assertEqual(bare_lengths(net=net, spread=told[0], order=told[1], falls=told[2]),
                             bare_lengths(net, spread, tuple(order), tuple(falls)))
            self.assertEqual(begun(net=net, spread=told[0]), begun(net, spread))
            self.assertEqual(told, kept)
        self.assertEqual([type(part) for part in (begun(self.net, as_lists(even(1))), begun(self.net, even(1))[0])],
                         [tuple, tuple])


if __name__ == "__main__":
    unittest.main()
