"""Turns now, and the one end of all falls, in all let orders, whichever right lots: against counting and sums."""

import unittest
from itertools import permutations, product

from helpers import Oddity, Steps, as_lists, odd_values, raised
from lookmade.lots import Fewest, Lots, Stuck, lots_of
from lookmade.nets import Net, with_turns
from lookmade.papers import Paper
from lookmade.runs import end_of, turn_now
from lookmade.spreads import even, of_bits, plain_form
from test_check_lots import namesake
from trials import all_layers, drawn_papers, left_of, orders, some_lots, waited
from trials import turn_now as counted_turn

ONE, NONE = (1, 0, 0, 0), (0, 0, 0, 0)
PATH = Net(3, [(0, 1), (1, 2)], [0], [2], {0: 1, 1: 3})
STEPS = Lots([[0], [1]], [(0, [1]), (1, [2])])


def bare(net, spread):
    """What is left if each look falls 0 by its own turn, as plain form."""
    return plain_form(left_of(net, spread, range(net.things), net.turns, net.kept))


class TurnNowTest(unittest.TestCase):
    def test_by_counting(self):
        steps = Steps(61)
        seen = set()
        for net, paper in drawn_papers(62, 60):
            lots = dict(paper.lots)
            for thing in net.looked:
                needed = [other for other in net.looked if other in sum(waited(net, lots, thing), ())]
                for bits in product((0, 1), repeat=len(needed)):
                    told = dict(zip(needed, bits))
                    turn = counted_turn(net, lots, thing, told)
                    pairs = list(told.items())
                    more = {other: steps.below(2) for other in net.looked if other not in told}
                    for falls in (pairs, pairs[::-1], tuple(pairs), [list(pair) for pair in pairs], told, {**more, **told},
                                  [*more.items(), *pairs]):
                        self.assertEqual(turn_now(net, paper, thing, falls), turn)
                    seen.add((dict(net.turns)[thing], turn))
                for other in needed:
                    falls = {one: 0 for one in net.looked if one != other}
                    self.assertEqual(raised(turn_now, net, paper, thing, falls), ("Misfit", "falls"))
        self.assertGreater(len(seen), 20)

    def test_all_turns(self):
        # Thing 0 exchanges 1 and signs 2, thing 3 exchanges 2 and signs 1.
        net = Net(6, [(0, 1), (1, 2), (2, 4), (2, 3), (1, 5)], [], [4, 5], dict.fromkeys(range(4), 0))
        paper = Lots([[0, 3], [1, 2]], [(0, [1]), (1, [5]), (2, [4]), (3, [2])])
        lots = dict(paper.lots)
        for turn in range(8):
            one = with_turns(net, dict.fromkeys(range(4), turn))
            for falls in product((0, 1), repeat=4):
                for thing in range(4):
                    told = dict(enumerate(falls))
                    self.assertEqual(turn_now(one, paper, thing, told), counted_turn(one, lots, thing, told))

    def test_exchanged_and_signed(self):
        for turn in range(8):
            net = Net(4, [(0, 1), (1, 2), (2, 3)], [0], [3], {0: 0, 1: turn, 2: turn})
            paper = Lots([[0], [1], [2]], [(0, [1]), (1, [2]), (2, [3])])
            for first, second in product((0, 1), repeat=2):
                told = (8 - turn if first else turn) % 8
                self.assertEqual(turn_now(net, paper, 1, [(0, first)]), told)
                told = ((8 - turn if second else turn) + 4 * first) % 8
                self.assertEqual(turn_now(net, paper, 2, [(1, second), (0, first)]), told)

    def test_wrong_falls(self):
        bad = (*[value for value in odd_values() if value not in ([], (), {}, {1: 1})], [0], [(0, 0), (0, 0)], [(0, 0), (0, 1)],
               [(0, 2)], [(0, True)], [(False, 0)], [(0.0, 0)], [(0, 0, 0)], [(0,)], [(2, 0)], [(0, 0), (2, 0)], [(3, 0)],
               [(-1, 0)], {0: 2}, {0: True}, {False: 0}, {0: 0, 2: 1}, {0: 0, 3: 1}, {"0": 0}, [(0, 0), None], [[]], "00",
               [("0", 0)], [(Oddity(), 0)], [(0, Oddity())], [{0: 0}], ["00"], [[0, 0], [1, 0], [0, 0]], {None: 0})
        for value in bad:
            for thing in (0, 1):
                self.assertEqual(raised(turn_now, PATH, STEPS, thing, value), ("BadFalls", "falls"), value)
        for value in ([], (), {}, {1: 1}, [(1, 0)]):
            self.assertEqual(raised(turn_now, PATH, STEPS, 1, value), ("Misfit", "falls"))
            self.assertEqual(turn_now(PATH, STEPS, 0, value), 1)

    def test_errors_in_order(self):
        for value in odd_values():
            self.assertEqual(raised(turn_now, value, None, None, None), ("BadNet", "net"))
        for value in bad_papers():
            self.assertEqual(raised(turn_now, PATH, value, None, None), ("BadLots", "paper"))
        for value in (*odd_values(), -1, 2, 3, 1.0, "1"):
            self.assertEqual(raised(turn_now, PATH, STEPS, value, None), ("BadNumber", "thing"))
        self.assertEqual(turn_now(net=PATH, paper=STEPS, thing=1, falls={0: 1}), 5)

    def test_nothing_is_changed(self):
        pairs, told = [[0, 1]], {0: 1}
        turn_now(PATH, STEPS, 1, pairs)
        turn_now(PATH, STEPS, 1, told)
        self.assertEqual((pairs, told), ([[0, 1]], {0: 1}))


def bad_papers():
    parts = STEPS.parts
    return (*odd_values(), Paper("lots", *parts), Stuck(*parts), Fewest(*parts), Stuck([0], [(0, [0])]), namesake(STEPS),
            Lots([[0], [True]], parts[1]), Lots(parts[0], [(0, [True]), (1, [2])]), Lots([[1], [0]], parts[1]),
            Lots([[0, 1]], parts[1]), Lots([], []), Lots(parts[0], {0: [1], 1: [2]}))


class EndTest(unittest.TestCase):
    def test_one_end(self):
        steps = Steps(63)
        runs = 0
        for net, paper in drawn_papers(64, 150):
            spread = of_bits([steps.below(2) for _ in net.given]) if steps.below(2) else steps.spread(len(net.given), 3)
            told = bare(net, spread)
            for order in orders(net, dict(paper.lots))[:6]:
                for falls in product((0, 1), repeat=len(order)):
                    self.assertEqual(end_of(net, paper, spread, order, falls), told, str(net))
                    runs += 1
        self.assertGreater(runs, 1000)

    def test_all_right_lots(self):
        steps = Steps(65)
        net = Net(5, [(0, 2), (1, 3), (2, 4), (2, 3)], [0, 1], [4, 3], [(0, 3), (1, 6), (2, 5)])
        spread = steps.spread(2, 5)
        papers = []
        for layers in all_layers(net.looked):
            for _ in range(4):
                lots = some_lots(steps, net, layers)
                if lots is not None:
                    papers.append(Lots(layers, lots))
        self.assertGreater(len({paper.parts for paper in papers}), 3)
        for paper in papers:
            for order in orders(net, dict(paper.lots)):
                for falls in product((0, 1), repeat=3):
                    self.assertEqual(end_of(net, paper, spread, order, falls), bare(net, spread))

    def test_kept_things_exchanged_and_signed(self):
        # The lot of 0 is 1 and 2, tied to one another: by fall 1 both are exchanged and signed at the end.
        for turn in range(8):
            net = Net(4, [(0, 1), (1, 2), (2, 3)], [3], [2, 1, 3], {0: turn})
            paper = Lots([[0]], [(0, [1, 2])])
            spread = [(1, 2, 3, 4), (0, 5, 0, 1)]
            for fall in (0, 1):
                self.assertEqual(end_of(net, paper, spread, [0], [fall]), bare(net, spread))
        net = Net(3, [(0, 1), (1, 2)], [], [1, 2], {0: 3})
        for lot in ([1], [1, 2]):
            for fall in (0, 1):
                self.assertEqual(end_of(net, Lots([[0]], [(0, lot)]), [ONE], [0], [fall]), bare(net, [ONE]))

    def test_nothing_looked_at(self):
        net = Net(2, [(0, 1)], [1], [1, 0], [])
        self.assertEqual(end_of(net, Lots([], []), [(2, 0, 0, 0), (0, 4, 0, 0)], [], ()),
                         (ONE, (0, 2, 0, 0), ONE, (0, -2, 0, 0)))

    def test_thirteen_live_things(self):
        net = Net(14, [(0, at) for at in range(1, 14)], [0], list(range(1, 14)), {0: 1})
        paper = Lots([[0]], [(0, [1])])
        self.assertEqual(raised(end_of, net, paper, even(1), [0], [0]), ("TooMany", "live", 12))
        self.assertEqual(raised(end_of, net, paper, even(2), [0], [0]), ("Misfit", "spread"))
        wide = Net(14, [(0, 1)], [0], list(range(1, 14)), {0: 1})
        self.assertEqual(raised(end_of, wide, paper, even(1), [0], [0]), ("TooMany", "live", 12))
        fine = Net(13, [(0, 1)], [0], list(range(1, 13)), {0: 1})
        self.assertEqual(len(end_of(fine, paper, even(1), [0], [1])), 4096)
        # In the one order 13 things are live, in the other 12.
        tied = [(0, 2), (1, 3), (3, 4), *[(2, at) for at in range(4, 15)]]
        net = Net(15, tied, [0, 1], list(range(4, 15)), {thing: 1 for thing in range(4)})
        paper = lots_of(net)
        self.assertEqual(raised(end_of, net, paper, even(2), [0, 2, 1, 3], [0] * 4), ("TooMany", "live", 12))
        self.assertEqual(raised(end_of, net, paper, even(2), [0, 1, 3, 2], [0] * 4), None)

    def test_a_net_of_many_things(self):
        strings = [(at, at + 3) for at in range(117)] + [(at, at + 1) for at in range(1, 110, 6)]
        net = Net(120, strings, [0, 1, 2], [119, 117, 118], {thing: thing % 8 for thing in range(117)})
        steps = Steps(66)
        ends = [end_of(net, lots_of(net), even(3), range_list(117), [steps.below(2) for _ in range(117)]) for _ in range(3)]
        self.assertEqual(ends, ends[:1] * 3)


def range_list(many):
    return list(range(many))


class EndErrorsTest(unittest.TestCase):
    def test_in_order(self):
        for value in odd_values():
            self.assertEqual(raised(end_of, value, None, None, None, None), ("BadNet", "net"))
        for value in bad_papers():
            self.assertEqual(raised(end_of, PATH, value, None, None, None), ("BadLots", "paper"))
        for value in (*odd_values(), [NONE, NONE], [ONE] * 3, [ONE, (True, 0, 0, 0)], [ONE, (1, 0, 0)]):
            self.assertEqual(raised(end_of, PATH, STEPS, value, None, None), ("BadSpread", "spread"))
        for value in (*odd_values(), [1, 0], [0], [0, 0], [0, 1, 2], [0, True], [False, 1], {0: 0, 1: 1}, "01", [0, 1.0]):
            self.assertEqual(raised(end_of, PATH, STEPS, even(2), value, None), ("BadOrder", "order"))
        for value in (*odd_values(), [0], [0, 2], [0, True], [0, 0, 0], [0, 1.0], {0: 0, 1: 1}, [(0, 0), (1, 0)], "00"):
            self.assertEqual(raised(end_of, PATH, STEPS, even(2), [0, 1], value), ("BadFalls", "falls"))
        for many in (0, 2, 12):
            self.assertEqual(raised(end_of, PATH, STEPS, even(many), [0, 1], [0, 0]), ("Misfit", "spread"))

    def test_lists_names_and_copies(self):
        told = (as_lists(even(1)), [0, 1], [1, 1])
        kept = as_lists(told)
        paper = Lots(as_lists(STEPS.layers), as_lists(STEPS.lots))
        found = end_of(net=PATH, paper=paper, spread=told[0], order=told[1], falls=told[2])
        self.assertEqual(found, end_of(PATH, STEPS, even(1), (0, 1), (1, 1)))
        self.assertEqual(as_lists(told), kept)
        self.assertEqual([type(found), type(found[0])], [tuple, tuple])

    def test_orders_that_are_not_let(self):
        for net, paper in drawn_papers(67, 20):
            let = orders(net, dict(paper.lots))
            for order in permutations(net.looked):
                error = raised(end_of, net, paper, even(len(net.given)), order, [0] * len(order))
                self.assertEqual(error, None if order in let else ("BadOrder", "order"))


if __name__ == "__main__":
    unittest.main()
