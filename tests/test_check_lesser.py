"""Papers of lesser nets, as they are told, by other steps, and bent at each place."""

import unittest

from helpers import Alike, Oddity, Steps, as_lists, bent, drawn_net, odd_values, raised
from lookmade.check_lesser import shows_lesser
from lookmade.lesser import Lesser, lesser
from lookmade.lots import Fewest, Lots, Stuck, lots_of
from lookmade.nets import Net, with_turns
from lookmade.papers import Denial, Paper
from test_check_lots import namesake
from test_lesser import LESS, SHORT, drawn_nets
from trials import all_steps, behind_step, lessened


def is_right(net, steps, left):
    """Whether the steps, any value, can be done, nothing can go behind them, and this is left."""
    if not isinstance(steps, tuple):
        return False
    for step in steps:
        # The printed form tells True from 1, and 1.0 from 1.
        if repr(step) not in [repr(told) for told in all_steps(net)]:
            return False
        net = behind_step(net, step)
    return not all_steps(net) and isinstance(left, Net) and left == net


class StepsTest(unittest.TestCase):
    def test_told_steps(self):
        for net in drawn_nets(101, 40):
            paper = lesser(net)
            self.assertIs(shows_lesser(net, paper), True)
            self.assertIs(shows_lesser(net, Lesser(as_lists(paper.steps), paper.net)), True)
            if paper.steps:
                self.assertIs(shows_lesser(net, Lesser([], net)), False)
                self.assertIs(shows_lesser(net, Lesser([], paper.net)), False)
                self.assertIs(shows_lesser(net, Lesser(paper.steps, net)), False)
                self.assertIs(shows_lesser(paper.net, paper), False)
                self.assertIs(shows_lesser(paper.net, Lesser([], paper.net)), True)

    def test_other_steps(self):
        steps = Steps(102)
        others = 0
        for net in drawn_nets(103, 60, 8):
            for _ in range(3):
                told, left = lessened(net, lambda can: can[steps.below(len(can))])
                self.assertIs(shows_lesser(net, Lesser(told, left)), True)
                self.assertIs(shows_lesser(net, Lesser(told, lesser(net).net)), left == lesser(net).net)
                others += told != lesser(net).steps
        self.assertGreater(others, 50)

    def test_bent(self):
        seen = [0, 0]
        for net in drawn_nets(104, 25, 6):
            paper = lesser(net)
            for told in bent(paper.steps, range(net.things)):
                if isinstance(told, list):
                    continue
                right = is_right(net, told, paper.net)
                self.assertIs(shows_lesser(net, Lesser(told, paper.net)), right, (str(net), told))
                seen[right] += 1
        self.assertGreater(seen[0], 1000)

    def test_words_and_numbers(self):
        long = Net(6, [(0, 1), (1, 2), (2, 3), (3, 4), (4, 5)], [0], [5], [(0, 1), (1, 0), (2, 4), (3, 3), (4, 1)])
        left = Net(4, [(0, 1), (1, 2), (2, 3)], [0], [3], [(0, 5), (1, 3), (2, 1)])
        self.assertIs(shows_lesser(long, Lesser([("pair", 1, 2)], left)), True)
        for step in (("pair", 2, 1), ("pair", 1, 1), ("pair", 1), ("pair", 1, 2, 3), ("pair",), (), ("pair", True, 2),
                     ("pair", 1.0, 2), ("pair", "1", "2"), ("Pair", 1, 2), ("quarter", 1), ("quarter", 1, 2), (1, 2), "pair",
                     ("pair", (1, 2)), (("pair", 1, 2),), None, 1, {0: "pair"}, ("pair", 1, 120), ("pair", -1, 2), (None, 1, 2),
                     (("pair",), 1, 2), ("pair", 0, 1), (True, 1, 2), ("pair", 1, 2, None), (Oddity(), 1, 2), ({}, 1, 2),
                     (Alike(), 1, 2), ("pair", Alike(), 2), Alike()):
            self.assertIs(shows_lesser(long, Lesser([step], left)), False, step)
        for step in (("quarter", True), ("quarter", 1.0), ("quarter",), ("quarter", 1, 2), ("quarter", None), ("quarter", (1,)),
                     ("pair", 1), ("quarter", -3), ("quarter", 4)):
            self.assertIs(shows_lesser(SHORT, Lesser([step], LESS)), False, step)
        for told in (None, 0, "", (), "quarter", {0: ("quarter", 1)}, ("quarter", 1), True, Oddity()):
            self.assertIs(shows_lesser(SHORT, Lesser(told, LESS)), False, told)

    def test_numbers_that_things_had_before(self):
        # Behind the quarter of 0 the thing that was 2 is 1; by its old number another thing would go, or none.
        net = Net(5, [(0, 3), (2, 4)], [], [], [(0, 2), (1, 1), (2, 6), (3, 1), (4, 1)])
        left = Net(3, [], [], [], [(0, 1), (1, 7), (2, 3)])
        self.assertIs(shows_lesser(net, Lesser([("quarter", 0), ("quarter", 1)], left)), True)
        self.assertIs(shows_lesser(net, Lesser([("quarter", 2), ("quarter", 0)], left)), True)
        for steps in ([("quarter", 0), ("quarter", 2)], [("quarter", 1), ("quarter", 0)], [("quarter", 0)],
                      [("quarter", 0), ("quarter", 1), ("quarter", 1)], [("quarter", 0), ("quarter", 0), ("quarter", 1)]):
            self.assertIs(shows_lesser(net, Lesser(steps, left)), False)

    def test_other_nets(self):
        for net in (with_turns(LESS, {0: 7, 1: 6}), Net(3, [(0, 1)], [0], [2], [(0, 7), (1, 2)]),
                    Net(3, [(0, 1), (1, 2)], [], [2], [(0, 7), (1, 2)]), Net(4, [(0, 1), (1, 2)], [0], [2], {0: 7, 1: 2, 3: 0}),
                    SHORT, None, Alike(), str(LESS), (LESS,), [LESS], LESS.turns, Lesser([], LESS), 0):
            self.assertIs(shows_lesser(SHORT, Lesser([("quarter", 1)], net)), False)
        two = Net(4, [(0, 1)], [2, 3], [3, 2], [(0, 2), (1, 1)])
        paper = lesser(two)
        self.assertIs(shows_lesser(two, paper), True)
        for given, kept in (([2, 1], [2, 1]), ([1, 2], [1, 2]), ([2, 1], [1, 2])):
            self.assertIs(shows_lesser(two, Lesser(paper.steps, Net(3, [], given, kept, [(0, 7)]))), False)

    def test_values_of_all_kinds(self):
        class Other(Lesser):
            pass

        parts = ([("quarter", 1)], LESS)
        right = Lesser(*parts)
        self.assertIs(shows_lesser(SHORT, right), True)
        self.assertIs(shows_lesser(value=right, net=SHORT), True)
        for value in (*odd_values(), parts, tuple(parts), Paper("lesser", *parts), Denial("lesser", *parts), Other(*parts), Lesser,
                      Lots(*parts), Stuck(*parts), Fewest(*parts), LESS, SHORT, lots_of(SHORT), namesake(right)):
            self.assertIs(shows_lesser(SHORT, value), False)
            self.assertIs(shows_lesser(LESS, value), False)

    def test_wrong_net(self):
        for value in (*odd_values(), str(SHORT), Lesser([], LESS)):
            self.assertEqual(raised(shows_lesser, value, None), ("BadNet", "net"))

    def test_many_things(self):
        steps = Steps(105)
        for turns in ((0, 4), (0, 2, 4, 6)):
            net = drawn_net(steps, 120, 0, 0, 4, turns)
            paper = lesser(net)
            self.assertIs(shows_lesser(net, paper), True)
            self.assertIs(shows_lesser(net, Lesser(paper.steps[:-1], paper.net)), False)
            self.assertIs(shows_lesser(net, Lesser(paper.steps * 2, paper.net)), False)


if __name__ == "__main__":
    unittest.main()
