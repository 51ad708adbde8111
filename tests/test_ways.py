"""Ways: all secrets that lead to what was told and heard, by trial of all secrets, and by telling each way once more."""

import unittest
from itertools import product

from helpers import Oddity, Steps, odd_values, raised
from lookmade.askers import Asker
from lookmade.lots import Fewest, Lots, Stuck, lots_of
from lookmade.nets import Net, with_turns
from lookmade.papers import Paper
from lookmade.strangers import Stranger
from lookmade.ways import ways_to
from test_askers import PAIR, PAPER, PATH, SECRETS, STEPS
from trials import asked_orders, read_behind, told_turn, ungiven


def truth_of(secrets, falls):
    return tuple(fall ^ bit for fall, (_, bit) in zip(falls, secrets))


def tells(net, lots, secrets, told, falls):
    """Whether an asker with these secrets tells just these turns if just these falls are heard."""
    truth = dict(enumerate(truth_of(secrets, falls)))
    return all(told_turn(net, lots, secrets, thing, truth) == turn for thing, turn in enumerate(told))


def drawn(steps, net):
    return [steps.below(8) for _ in range(net.things)], [steps.below(2) for _ in range(net.things)]


class WaysTest(unittest.TestCase):
    def test_all_secrets(self):
        steps = Steps(141)
        many = 0
        for net, paper in ungiven(142, 40, 3):
            told, falls = drawn(steps, net)
            lots = dict(paper.lots)
            right = [secrets for secrets in product(SECRETS, repeat=net.things) if tells(net, lots, secrets, told, falls)]
            self.assertEqual(ways_to(net, paper, told, falls), tuple(right))
            self.assertEqual(len(right), 2 ** net.things)
            many += net.things == 3
        self.assertGreater(many, 10)

    def test_each_way(self):
        steps = Steps(143)
        sizes = set()
        for net, paper in ungiven(144, 60, 6):
            told, falls = drawn(steps, net)
            ways = ways_to(net, paper, told, falls)
            lots = dict(paper.lots)
            self.assertEqual(list(ways), sorted(set(ways)))
            self.assertTrue(all(tells(net, lots, secrets, told, falls) for secrets in ways))
            truths = {truth_of(secrets, falls) for secrets in ways}
            self.assertEqual(truths, set(product((0, 1), repeat=net.things)))
            self.assertEqual(len(ways), 2 ** net.things)
            for thing in range(net.things):
                self.check_two_secrets(net, lots, told, falls, ways, thing)
            sizes.add(net.things)
        self.assertGreaterEqual(sizes, {2, 3, 4, 5, 6})

    def check_two_secrets(self, net, lots, told, falls, ways, thing):
        """By each row of true falls of what a thing waits for, just one turn for each bit of it tells what was told."""
        before = sorted(set(sum(read_behind(net, lots, thing), ())))
        seen = {}
        for secrets in ways:
            truth = truth_of(secrets, falls)
            seen.setdefault(tuple(truth[one] for one in before), set()).add(secrets[thing])
        self.assertEqual(len(seen), 2 ** len(before))
        for found in seen.values():
            self.assertEqual(sorted(bit for _, bit in found), [0, 1])

    def test_by_askers(self):
        steps = Steps(145)
        for net, paper in ungiven(146, 25, 5):
            told, falls = drawn(steps, net)
            order = asked_orders(net, dict(paper.lots))[-1]
            for secrets in ways_to(net, paper, told, falls):
                asker = Asker(net, paper, secrets)
                for thing in order:
                    self.assertEqual(asker.asks(thing), told[thing])
                    asker.hears(thing, falls[thing])
                self.assertEqual(asker.book, tuple((thing, told[thing], falls[thing]) for thing in order))

    def test_as_many_for_all_turns(self):
        for turns in product(range(0, 8, 3), repeat=2):
            net = with_turns(PATH, dict(enumerate(turns)))
            ways = ways_to(net, STEPS, (1, 2, 3, 4), (0, 1, 1, 0))
            self.assertEqual(len(ways), 16)
            self.assertEqual({tuple(bit for _, bit in way) for way in ways}, set(product((0, 1), repeat=4)))

    def test_the_stranger_learns_nothing(self):
        # Over all ways the lengths of what is left add up to the same, whatever turns the net has.
        steps = Steps(147)
        for net, paper in ungiven(148, 20, 4):
            for _ in range(2):
                told, falls = drawn(steps, net)
                order = asked_orders(net, dict(paper.lots))[0]
                whole = [0, 0]
                for secrets in ways_to(net, paper, told, falls):
                    stranger = Stranger(net.things, net.strings, [turn for turn, _ in secrets])
                    if any([raised(stranger.looks, thing, told[thing], falls[thing]) for thing in order]):
                        continue
                    whole = [sum(pair) for pair in zip(whole, stranger.length)]
                self.assertEqual(whole, [4 ** net.things, 0])

    def test_lone_things(self):
        lone = Net(1, [], [], [0], [])
        self.assertEqual(ways_to(lone, Lots([], []), [3], [1]), (((1, 1),), ((5, 0),)))
        self.assertEqual(ways_to(lone, Lots([], []), (0,), (0,)), (((0, 0),), ((4, 1),)))

    def test_six_and_seven_things(self):
        for things in (6, 7):
            strings = [(at, at + 1) for at in range(things - 1)]
            net = Net(things, strings, [], [things - 1], dict.fromkeys(range(things - 1), 3))
            if things == 6:
                self.assertEqual(len(ways_to(net, lots_of(net), [0] * 6, [1] * 6)), 64)
            else:
                self.assertEqual(raised(ways_to, net, lots_of(net), [0] * 7, [1] * 7), ("TooMany", "things", 6))

    def test_lists_and_names(self):
        told = ways_to(PAIR, PAPER, [2, 3], [1, 1])
        self.assertEqual(told, ways_to(falls=(1, 1), told=(2, 3), paper=PAPER, net=PAIR))
        self.assertEqual(told, (((3, 1), (1, 1)), ((3, 1), (5, 0)), ((7, 0), (1, 1)), ((7, 0), (5, 0))))


class ErrorsTest(unittest.TestCase):
    def test_in_order(self):
        for value in (*odd_values(), str(PAIR)):
            self.assertEqual(raised(ways_to, value, None, None, None), ("BadNet", "net"))
        for value in (*odd_values(), Paper("lots", *PAPER.parts), Stuck(*PAPER.parts), Fewest(*PAPER.parts), Lots([], []), STEPS):
            self.assertEqual(raised(ways_to, PAIR, value, None, None), ("BadLots", "paper"))
        for value in (*odd_values(), [0, 0, 0], [0, 8], [0, -1], [0, True], [0, 1.0], [0, None], {0: 0, 1: 0}, [[0], [1]], "00",
                      [(0, 0), (1, 0)], Oddity()):
            self.assertEqual(raised(ways_to, PAIR, PAPER, value, None), ("BadNumber", "told"), value)
        for value in (*odd_values(), [0, 0, 0], [0, 2], [0, -1], [0, True], [0, 1.0], [0, None], {0: 0, 1: 0}, [[0], [1]], "00",
                      [(0, 0), (1, 0)], Oddity()):
            self.assertEqual(raised(ways_to, PAIR, PAPER, (2, 3), value), ("BadFalls", "falls"), value)

    def test_given(self):
        net = Net(7, [(at, at + 1) for at in range(6)], [0], [6], dict.fromkeys(range(6), 3))
        paper = lots_of(net)
        self.assertEqual(raised(ways_to, net, paper, [0] * 6, [0] * 7), ("BadNumber", "told"))
        self.assertEqual(raised(ways_to, net, paper, [0] * 7, [0] * 6), ("BadFalls", "falls"))
        self.assertEqual(raised(ways_to, net, paper, [0] * 7, [0] * 7), ("Misfit", "given"))


if __name__ == "__main__":
    unittest.main()
