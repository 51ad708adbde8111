"""What can go, what a step makes of a net, and lessened nets: against the document's words, and against sums."""

import unittest
from itertools import combinations

from helpers import Oddity, Steps, drawn_list, drawn_net, odd_values, raised, renumbered, threaded_net
from lookmade.lesser import Lesser, lesser, may_pair, may_quarter, odd_in, pair, quarter
from lookmade.looks import bare_end
from lookmade.lots import has_lots, lots_of
from lookmade.nets import Net, with_turns
from lookmade.papers import Denial, Paper
from lookmade.runs import end_of
from lookmade.spreads import are_alike, of_bits
from lookmade.waits import first_order
from trials import all_steps, behind_pair, behind_quarter, behind_step, can_pair, can_quarter, left_of, lessened

SHORT = Net(4, [(0, 1), (1, 2), (2, 3)], [0], [3], [(0, 1), (1, 2), (2, 4)])
LESS = Net(3, [(0, 1), (1, 2)], [0], [2], [(0, 7), (1, 2)])


def drawn_nets(start, many, most=7):
    """Nets that look drawn: many of their turns are even, so that much can go."""
    steps = Steps(start)
    for at in range(many):
        turns = [(0, 4), (2, 6), (0, 2, 4, 6), range(8)][at % 4]
        kinds = [(0, 0), (2, 0), (0, 2), (2, 2)][at // 4 % 4]
        yield drawn_net(steps, steps.between(1, most), *kinds, 2 + at % 5, turns)
        net = threaded_net(steps, 1 + at % 2, most)
        yield with_turns(net, {thing: turns[steps.below(len(turns))] for thing in net.looked})


def bare(net, spread):
    """What is left if each look falls 0 by its own turn; None if one of them never comes."""
    found = left_of(net, spread, range(net.things), net.turns, net.kept)
    return found if any(any(amount) for amount in found) else None


class MayTest(unittest.TestCase):
    def test_by_words(self):
        seen = {}
        for net in drawn_nets(81, 90):
            for thing in range(net.things):
                told = can_quarter(net, thing)
                self.assertIs(may_quarter(net, thing), told)
                seen["quarter", told] = seen.get(("quarter", told), 0) + 1
                self.assertIs(may_pair(net, thing, thing), False)
            for one, other in combinations(range(net.things), 2):
                told = can_pair(net, one, other)
                self.assertIs(may_pair(net, one, other), told)
                self.assertIs(may_pair(net, other, one), told)
                seen["pair", told] = seen.get(("pair", told), 0) + 1
        self.assertGreater(min(seen.values()), 40)
        self.assertEqual(len(seen), 4)

    def test_turns(self):
        for turn in range(8):
            net = Net(3, [(0, 1)], [], [2], [(0, turn), (1, 0)])
            self.assertIs(may_quarter(net, 0), turn in (2, 6))
            self.assertIs(may_pair(net, 0, 1), turn in (0, 4))
            self.assertIs(may_pair(net, 1, 0), turn in (0, 4))

    def test_given_kept_and_neighbours(self):
        strings = [(0, 1), (1, 2), (2, 3)]
        for given, kept, told in (([], [], True), ([1], [], False), ([], [1], False), ([0, 2, 3], [], True), ([], [0], False),
                                  ([], [2], False), ([], [3], True)):
            turns = {thing: 2 for thing in range(4) if thing not in kept}
            self.assertIs(may_quarter(Net(4, strings, given, kept, turns), 1), told)
        for given, kept, told in (([], [], True), ([1], [], False), ([2], [], False), ([], [1], False), ([], [2], False),
                                  ([0, 3], [], True), ([], [0], False), ([], [3], False)):
            turns = {thing: 4 for thing in range(4) if thing not in kept}
            self.assertIs(may_pair(Net(4, strings, given, kept, turns), 1, 2), told)
        self.assertIs(may_pair(Net(4, strings, [], [], dict.fromkeys(range(4), 0)), 0, 2), False)

    def test_what_would_leave_no_thing(self):
        self.assertIs(may_quarter(Net(1, [], [], [], [(0, 2)]), 0), False)
        self.assertIs(may_quarter(Net(2, [], [], [], [(0, 2), (1, 1)]), 0), True)
        self.assertIs(may_quarter(Net(2, [], [], [1], [(0, 2)]), 0), True)
        self.assertIs(may_pair(Net(2, [(0, 1)], [], [], [(0, 0), (1, 4)]), 0, 1), False)
        self.assertIs(may_pair(Net(3, [(0, 1)], [], [], [(0, 0), (1, 4), (2, 1)]), 0, 1), True)
        self.assertIs(may_pair(Net(3, [(0, 1)], [], [2], [(0, 0), (1, 4)]), 0, 1), True)
        self.assertEqual(raised(quarter, Net(1, [], [], [], [(0, 2)]), 0), ("Misfit", "thing"))
        self.assertEqual(raised(pair, Net(2, [(0, 1)], [], [], [(0, 0), (1, 4)]), 0, 1), ("Misfit", "pair"))
        lone = Net(1, [], [], [], [(0, 6)])
        self.assertEqual(lesser(lone), Lesser([], lone))


class StepsTest(unittest.TestCase):
    def test_by_words(self):
        seen = [0, 0]
        for net in drawn_nets(82, 120):
            for thing in range(net.things):
                if can_quarter(net, thing):
                    self.assertEqual(quarter(net, thing), behind_quarter(net, thing))
                    seen[0] += 1
                else:
                    self.assertEqual(raised(quarter, net, thing), ("Misfit", "thing"))
                self.assertEqual(raised(pair, net, thing, thing), ("Misfit", "pair"))
            for one, other in combinations(range(net.things), 2):
                if can_pair(net, one, other):
                    self.assertEqual(pair(net, one, other), behind_pair(net, one, other))
                    self.assertEqual(pair(net, other, one), behind_pair(net, one, other))
                    seen[1] += 1
                else:
                    self.assertEqual(raised(pair, net, one, other), ("Misfit", "pair"))
                    self.assertEqual(raised(pair, net, other, one), ("Misfit", "pair"))
        self.assertGreater(min(seen), 100)

    def test_orders_of_given_and_kept(self):
        net = Net(7, [(0, 3), (3, 6), (0, 6)], [6, 0, 5], [5, 1, 4], [(0, 7), (2, 0), (3, 2), (6, 1)])
        self.assertEqual(quarter(net, 3), Net(6, [], [5, 0, 4], [4, 1, 3], [(0, 5), (2, 0), (5, 7)]))

    def test_three_sorts(self):
        # The neighbours of 0 alone are 2 and 3, of 1 alone 4, of both 5 and 6; those of one sort stay as they are.
        strings = [(0, 1), (0, 2), (0, 3), (1, 4), (0, 5), (1, 5), (0, 6), (1, 6), (2, 3), (2, 4), (5, 6), (3, 5)]
        net = Net(7, strings, [], [], [(0, 4), (1, 0), *[(thing, thing) for thing in range(2, 7)]])
        ties = [(0, 1), (0, 3), (0, 4), (1, 2), (1, 4), (2, 3), (2, 4), (3, 4)]
        self.assertEqual(pair(net, 0, 1), Net(5, ties, [], [], [(0, 2), (1, 3), (2, 0), (3, 5), (4, 6)]))
        self.assertEqual(pair(net, 0, 1), behind_pair(net, 0, 1))

    def test_bare_ends_stay(self):
        steps = Steps(83)
        seen = {}
        for net in drawn_nets(84, 70, 6):
            spread = steps.spread(len(net.given), 2) if steps.below(2) else of_bits([steps.below(2) for _ in net.given])
            before = bare(net, spread)
            if before is not None:
                self.assertTrue(are_alike(before, bare_end(net, spread, net.looked, [0] * len(net.looked))))
            for step in all_steps(net):
                found = quarter(net, step[1]) if step[0] == "quarter" else pair(net, step[1], step[2])
                left = bare(found, spread)
                self.assertIs(before is None, left is None)
                self.assertTrue(before is None or are_alike(before, left))
                seen[step[0], before is None] = seen.get((step[0], before is None), 0) + 1
        self.assertEqual(len(seen), 4)
        self.assertGreater(min(seen.values()), 5)

    def test_odd_turns_stay(self):
        for net in drawn_nets(85, 60):
            odd = len([turn for _, turn in net.turns if turn in (1, 3, 5, 7)])
            self.assertEqual(odd_in(net), odd)
            self.assertEqual(odd_in(lesser(net).net), odd)
            for step in all_steps(net):
                self.assertEqual(odd_in(quarter(net, step[1]) if step[0] == "quarter" else pair(net, *step[1:])), odd)


class LesserTest(unittest.TestCase):
    def test_in_the_told_order(self):
        seen = set()
        for net in drawn_nets(86, 120, 9):
            steps, left = lessened(net, lambda steps: steps[0])
            paper = lesser(net)
            self.assertEqual((paper.steps, paper.net), (steps, left))
            self.assertEqual(paper, Lesser(steps, left))
            self.assertEqual(all_steps(paper.net), [])
            seen.update((step[0], len(steps)) for step in steps)
        self.assertGreater(len(seen), 10)

    def test_given_and_kept_none(self):
        steps = Steps(87)
        for kinds in ((0, 0), (10, 0), (0, 10), (10, 10)):
            for _ in range(6):
                net = drawn_net(steps, 6, *kinds, 4, (0, 2, 4, 6))
                told, left = lessened(net, lambda steps: steps[0])
                self.assertEqual(lesser(net), Lesser(told, left))
                if kinds != (0, 0):
                    self.assertEqual(lesser(net), Lesser([], net))
                else:
                    self.assertLess(left.things, 6)

    def test_ends_stay(self):
        steps = Steps(88)
        found = 0
        for net in drawn_nets(89, 60, 7):
            if not has_lots(net):
                continue
            less = lesser(net).net
            self.assertTrue(has_lots(less))
            spread = steps.spread(len(net.given), 3)
            ends = []
            for one in (net, less):
                paper = lots_of(one)
                order = first_order(one, paper)
                ends.append(end_of(one, paper, spread, order, [steps.below(2) for _ in order]))
            self.assertEqual(ends[0], ends[1])
            found += net != less
        self.assertGreater(found, 10)

    def test_paper(self):
        paper = lesser(SHORT)
        self.assertEqual((paper.word, paper.parts), ("lesser", ((("quarter", 1),), LESS)))
        self.assertEqual((paper.steps, paper.net), ((("quarter", 1),), LESS))
        self.assertIsInstance(paper, Paper)
        self.assertNotIsInstance(paper, Denial)
        self.assertIs(bool(paper), True)
        self.assertEqual(Lesser.__bases__, (Paper,))
        for parts in (([["quarter", 1]], LESS), (None, None), ([[[1]]], [2]), ("a", {"b": [1]}), (0, Oddity)):
            made, named = Lesser(*parts), Lesser(net=parts[1], steps=parts[0])
            self.assertEqual(made, named)
            self.assertEqual((made.steps, made.net), made.parts)
            self.assertIs(bool(made), True)
        self.assertEqual(Lesser([[[1]]], [2]).parts, ((((1,),),), (2,)))
        self.assertNotEqual(Lesser([], LESS), Lesser([], SHORT))
        self.assertNotEqual(Lesser([], LESS), Paper("lesser", [], LESS))

    def test_what_was_passed_stays(self):
        text = str(SHORT)
        lesser(SHORT)
        quarter(SHORT, 1)
        self.assertEqual(str(SHORT), text)
        self.assertEqual(SHORT, Net.read(text))


class ManyThingsTest(unittest.TestCase):
    def test_chains(self):
        strings = [(at, at + 1) for at in range(119)]
        for turn, left in ((0, 4), (2, 4), (1, 120), (6, 4), (4, 4)):
            net = Net(120, strings, [0], [119], {thing: turn for thing in range(119)})
            paper = lesser(net)
            self.assertEqual((paper.steps, paper.net), lessened_chain(net))
            self.assertTrue(paper.net.things <= left)
            self.assertTrue(has_lots(paper.net))
            self.assertEqual(odd_in(paper.net), odd_in(net))

    def test_drawn(self):
        steps = Steps(90)
        for chance in (1, 5, 9):
            for turns in ((0, 4), (2, 6), (0, 2, 4, 6), range(8)):
                net = drawn_net(steps, 120, 0, 0, chance, turns)
                paper = lesser(net)
                self.assertEqual(odd_in(paper.net), odd_in(net))
                gone = sum(len(step) - 1 for step in paper.steps)
                self.assertEqual(paper.net.things, 120 - gone)
                self.assertFalse([thing for thing in range(paper.net.things) if may_quarter(paper.net, thing)])

    def test_renumbered_threads(self):
        steps = Steps(91)
        strings = [(at, at + 3) for at in range(117)] + [(at, at + 1) for at in range(1, 110, 7)]
        net = Net(120, strings, [0, 1, 2], [117, 118, 119], {thing: (thing * 2) % 8 for thing in range(117)})
        net = renumbered(net, drawn_list(steps, range(120), 10))
        paper = lesser(net)
        self.assertGreater(len(paper.steps), 20)
        one = net
        for step in paper.steps:
            one = quarter(one, step[1]) if step[0] == "quarter" else pair(one, *step[1:])
        self.assertEqual(one, paper.net)
        self.assertEqual(all_steps(paper.net), [])


def lessened_chain(net):
    """As lessened by the first step each time, for nets of few strings."""
    steps = []
    while True:
        told = [("quarter", thing) for thing in range(net.things) if can_quarter(net, thing)][:1]
        told += [("pair", *two) for two in net.strings if can_pair(net, *two)][:1]
        if not told:
            return tuple(steps), net
        net = behind_step(net, told[0])
        steps.append(told[0])


class ErrorsTest(unittest.TestCase):
    def test_wrong_net(self):
        for value in (*odd_values(), Lesser([], SHORT), str(SHORT)):
            for call, more in ((may_quarter, (None,)), (quarter, (None,)), (may_pair, (None, None)), (pair, (None, None)),
                               (lesser, ()), (odd_in, ())):
                self.assertEqual(raised(call, value, *more), ("BadNet", "net"))

    def test_wrong_things(self):
        for value in (*odd_values(), -1, 4, 120, 1.0):
            for call in (may_quarter, quarter):
                self.assertEqual(raised(call, SHORT, value), ("BadNumber", "thing"))
            for call in (may_pair, pair):
                self.assertEqual(raised(call, SHORT, value, None), ("BadNumber", "one"))
                self.assertEqual(raised(call, SHORT, 1, value), ("BadNumber", "other"))

    def test_misfits(self):
        for thing in (0, 2, 3):
            self.assertEqual(raised(quarter, SHORT, thing), ("Misfit", "thing"))
        for two in combinations(range(4), 2):
            self.assertEqual(raised(pair, SHORT, *two), ("Misfit", "pair"))

    def test_by_name(self):
        self.assertEqual(quarter(thing=1, net=SHORT), LESS)
        self.assertIs(may_quarter(thing=1, net=SHORT), True)
        self.assertIs(may_pair(other=1, one=2, net=SHORT), False)
        self.assertEqual(raised(pair, other=1, one=2, net=SHORT), ("Misfit", "pair"))
        self.assertEqual(lesser(net=SHORT).net, LESS)
        self.assertEqual(odd_in(net=SHORT), 1)


if __name__ == "__main__":
    unittest.main()
