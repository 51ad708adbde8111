"""What waits for what, let orders, and live things: against counting, thing by thing."""

import unittest
from itertools import permutations

from helpers import Oddity, Steps, as_lists, drawn_list, drawn_net, odd_values, raised
from lookmade.lots import Fewest, Lots, Stuck, lots_of
from lookmade.nets import Net
from lookmade.papers import Paper
from lookmade.waits import first_order, is_let, most_live, waits
from trials import drawn_papers, near, orders, waited

PATH = Net(3, [(0, 1), (1, 2)], [0], [2], {0: 1, 1: 3})
STEPS = Lots([[0], [1]], [(0, [1]), (1, [2])])


def counted_live(net, order):
    """How many things are live at most, by sets."""
    live, were, counts = set(net.given), set(net.given), [len(net.given)]
    for thing in order:
        live |= ({thing} | near(net, thing)) - were
        were |= {thing} | near(net, thing)
        counts.append(len(live))
        live.remove(thing)
    counts.append(len(live | (set(net.kept) - were)))
    return max(counts)


class WaitsTest(unittest.TestCase):
    def test_by_counting(self):
        signed = 0
        for net, paper in drawn_papers(41, 80):
            for thing in range(net.things):
                self.assertEqual(waits(net, paper, thing), waited(net, dict(paper.lots), thing))
                signed += len(waits(net, paper, thing)[1])
        self.assertGreater(signed, 50)

    def test_a_thing_exchanged_and_signed_by_one(self):
        # The lot of 0 is 1 and 2, tied to one another: 0 exchanges both, and signs both.
        net = Net(3, [(0, 1), (1, 2)], [], [1, 2], {0: 2})
        paper = Lots([[0]], [(0, [1, 2])])
        self.assertEqual([waits(net, paper, thing) for thing in range(3)], [((), ()), ((0,), (0,)), ((0,), (0,))])
        self.assertEqual([type(part) for part in (waits(net, paper, 1), *waits(net, paper, 1))], [tuple] * 3)

    def test_let_orders(self):
        for net, paper in drawn_papers(42, 50):
            let = orders(net, dict(paper.lots))
            for order in permutations(net.looked):
                self.assertIs(is_let(net, paper, order), order in let)
                self.assertIs(is_let(net, paper, list(order)), order in let)
            self.assertEqual(first_order(net, paper), min(let))
            self.assertIsInstance(first_order(net, paper), tuple)

    def test_values_of_all_kinds_as_orders(self):
        for value in (*odd_values(), [0], [0, 0], [0, 1, 1], [0, 2], [0, True], [False, 1], [0, 1.0], ["0", "1"], "01",
                      {0: 0, 1: 1}, [[0], [1]], [0, [1]], [0, 1, 2], [0, Oddity()], PATH, STEPS, {0, 1}, [0, -1], [1, 0]):
            self.assertIs(is_let(PATH, STEPS, value), False, value)
        self.assertIs(is_let(net=PATH, paper=STEPS, order=(0, 1)), True)

    def test_nothing_looked_at(self):
        net, paper = Net(2, [(0, 1)], [1], [1, 0], []), Lots([], [])
        self.assertEqual(first_order(net, paper), ())
        self.assertIs(is_let(net, paper, []), True)
        for value in (None, {}, "", [0]):
            self.assertIs(is_let(net, paper, value), False)
        self.assertEqual(most_live(net, []), 2)
        self.assertEqual([waits(net, paper, thing) for thing in (0, 1)], [((), ()), ((), ())])

    def test_least_order(self):
        # Thing 3 waits for nothing, 0 waits for 2: the least let order is not that of the layers.
        net = Net(8, [(2, 0), (0, 4), (3, 5), (1, 6)], [], [4, 5, 6, 7], {thing: 0 for thing in range(4)})
        paper = Lots([[1, 2, 3], [0]], [(0, [4]), (1, [6]), (2, [0]), (3, [5])])
        self.assertEqual(first_order(net, paper), (1, 2, 0, 3))

    def test_nets_of_many_things(self):
        strings = [(at, at + 4) for at in range(116)] + [(at, at + 1) for at in range(2, 112, 8)]
        net = Net(120, strings, [0, 1, 2, 3], [116, 117, 118, 119], {thing: thing % 8 for thing in range(116)})
        paper = lots_of(net)
        order = first_order(net, paper)
        self.assertIs(is_let(net, paper, order), True)
        self.assertEqual(sorted(order), list(range(116)))
        self.assertEqual(most_live(net, order), counted_live(net, order))
        for thing in range(0, 120, 7):
            self.assertEqual(waits(net, paper, thing), waited(net, dict(paper.lots), thing))


class MostLiveTest(unittest.TestCase):
    def test_by_counting(self):
        steps = Steps(43)
        for at in range(200):
            net = drawn_net(steps, steps.between(1, 8), given=at % 6, kept=at % 7, strings=at % 8)
            order = drawn_list(steps, net.looked, 10)
            self.assertEqual(most_live(net, order), counted_live(net, order))

    def test_edges(self):
        self.assertEqual(most_live(Net(1, [], [], [], [(0, 0)]), [0]), 1)
        self.assertEqual(most_live(Net(3, [], [0, 1, 2], [], dict.fromkeys(range(3), 0)), (2, 0, 1)), 3)
        self.assertEqual(most_live(Net(4, [], [], [1, 2, 3], [(0, 0)]), [0]), 3)
        self.assertEqual(most_live(net=PATH, order=[1, 0]), 3)
        star = Net(20, [(0, at) for at in range(1, 20)], [0], [19], {at: 0 for at in range(19)})
        self.assertEqual(most_live(star, range_list(19)), 20)
        self.assertEqual(most_live(star, range_list(19)[::-1]), 2)

    def test_errors(self):
        for value in odd_values():
            self.assertEqual(raised(most_live, value, None), ("BadNet", "net"))
        for value in (*odd_values(), [0], [1, 1], [0, 2], [0, 1, 2], [0, True], [0, 1.0], "01", {0: 0, 1: 1}):
            self.assertEqual(raised(most_live, PATH, value), ("BadOrder", "order"))


def range_list(many):
    return list(range(many))


class ErrorsTest(unittest.TestCase):
    def test_nets(self):
        for value in (*odd_values(), STEPS):
            self.assertEqual(raised(waits, value, None, None), ("BadNet", "net"))
            self.assertEqual(raised(is_let, value, None, None), ("BadNet", "net"))
            self.assertEqual(raised(first_order, value, None), ("BadNet", "net"))

    def test_papers(self):
        class Other(Lots):
            pass

        parts = ([[0], [1]], [(0, [1]), (1, [2])])
        bad = (*odd_values(), parts, Paper("lots", *parts), Other(*parts), Fewest(*parts), Stuck(*parts), Stuck([0], [(0, [0])]),
               Lots([[0], [True]], parts[1]), Lots(parts[0], [(0, [True]), (1, [2])]), Lots(parts[0], [(0, [1])]),
               Lots([[1], [0]], parts[1]), Lots([[0, 1]], parts[1]), Lots(parts[0], [(0, [1]), (1, [0])]),
               Lots([[0], [1]], {0: [1], 1: [2]}), Lots([], []), Lots([[0]], [(0, [1])]))
        for value in bad:
            self.assertEqual(raised(waits, PATH, value, None), ("BadLots", "paper"))
            self.assertEqual(raised(is_let, PATH, value, None), ("BadLots", "paper"))
            self.assertEqual(raised(first_order, PATH, value), ("BadLots", "paper"))
        self.assertEqual(raised(waits, PATH, lots_of(Net(2, [(0, 1)], [], [1], [(0, 0)])), 5), ("BadLots", "paper"))

    def test_things(self):
        for value in (*odd_values(), -1, 3, 120, 1.0, "0"):
            self.assertEqual(raised(waits, PATH, STEPS, value), ("BadNumber", "thing"))

    def test_lists_and_names(self):
        told = Lots(as_lists(STEPS.layers), as_lists(STEPS.lots))
        self.assertEqual(waits(net=PATH, paper=told, thing=2), ((1,), (0,)))
        self.assertEqual(first_order(net=PATH, paper=told), (0, 1))


if __name__ == "__main__":
    unittest.main()
