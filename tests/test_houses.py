"""Waves, rounds and houses: what hands are given, lose, tell, against own waiting and sums over all bits."""

import unittest

from helpers import Oddity, Steps, as_lists, odd_values, raised
from lookmade.houses import House, rounds, waves
from lookmade.lots import Fewest, Lots, Stuck, lots_of
from lookmade.made import lots_for, net_of
from lookmade.nets import Net
from lookmade.papers import Paper
from lookmade.programs import Program
from lookmade.runs import end_of
from lookmade.spreads import even, of_bits, plain_form
from lookmade.waits import first_order, is_let
from trials import drawn_papers, left_of, met, turn_now

ONE, NONE = (1, 0, 0, 0), (0, 0, 0, 0)
PATH = Net(3, [(0, 1), (1, 2)], [0], [2], {0: 1, 1: 3})
STEPS = Lots([[0], [1]], [(0, [1]), (1, [2])])
BOTH = Net(4, [(0, 2), (1, 3)], [0, 1], [2, 3], [(0, 1), (1, 3)])
RIGHT = Lots([[0, 1]], [(0, [2]), (1, [3])])


def state(house):
    return (house.hands, house.held, house.known, house.order, house.done)


def befores(net, paper):
    """For each looked thing the set of all that it waits for."""
    reach = {thing: (set(lot) | met(net, lot)) - {thing} for thing, lot in paper.lots}
    return {thing: {other for other in net.looked if thing in reach[other]} for thing in net.looked}


def own_rounds(net, paper, most):
    """The rounds in which at most so many things are looked at; None for no bound."""
    before = befores(net, paper)
    found, done = [], set()
    while len(done) < len(net.looked):
        ready = [thing for thing in net.looked if thing not in done and before[thing] <= done]
        found.append(tuple(ready[:most]))
        done |= set(found[-1])
    return tuple(found)


class WavesTest(unittest.TestCase):
    def test_by_own_waiting(self):
        widths = set()
        for net, paper in drawn_papers(111, 60, 7):
            told = own_rounds(net, paper, None)
            self.assertEqual(waves(net, paper), told)
            self.assertLessEqual(len(told), len(paper.layers))
            for hands in range(1, 9):
                found = rounds(net, paper, hands)
                self.assertEqual(found, own_rounds(net, paper, hands))
                self.assertGreaterEqual(len(found), len(told))
                self.assertGreaterEqual(len(found) * hands, len(net.looked))
                self.assertTrue(is_let(net, paper, sum(found, ())))
            widest = max(map(len, told), default=0)
            widths.add(widest)
            if 1 <= widest <= 8:
                self.assertEqual(rounds(net, paper, widest), told)
        self.assertGreater(len(widths), 3)

    def test_more_layers_than_waves(self):
        self.assertEqual(waves(BOTH, Lots([[1], [0]], RIGHT.lots)), ((0, 1),))
        self.assertEqual(rounds(BOTH, Lots([[1], [0]], RIGHT.lots), 1), ((0,), (1,)))

    def test_no_looked_thing(self):
        net = Net(2, [(0, 1)], [1], [1, 0], [])
        self.assertEqual(waves(net, Lots([], [])), ())
        self.assertEqual(rounds(net, Lots([], []), 3), ())

    def test_least_first_in_each_round(self):
        # Thing 0 waits for 4 alone: as soon as 4 was looked at it comes before the things that were ready.
        net = Net(10, [(4, 0), (0, 5), (1, 6), (2, 7), (3, 8)], [], [5, 6, 7, 8, 9], dict.fromkeys(range(5), 1))
        paper = Lots([[4], [0, 1, 2, 3]], [(0, [5]), (1, [6]), (2, [7]), (3, [8]), (4, [0])])
        self.assertEqual(waves(net, paper), ((1, 2, 3, 4), (0,)))
        self.assertEqual(rounds(net, paper, 2), ((1, 2), (3, 4), (0,)))
        self.assertEqual(rounds(net, paper, 4), ((1, 2, 3, 4), (0,)))
        self.assertEqual(rounds(net, paper, 1), ((1,), (2,), (3,), (4,), (0,)))

    def test_many_things(self):
        strings = [(at, at + 4) for at in range(116)] + [(at, at + 1) for at in range(2, 112, 8)]
        net = Net(120, strings, [0, 1, 2, 3], [116, 117, 118, 119], {thing: thing % 8 for thing in range(116)})
        paper = lots_of(net)
        self.assertEqual(waves(net, paper), own_rounds(net, paper, None))
        for hands in (1, 3, 8):
            self.assertEqual(rounds(net, paper, hands), own_rounds(net, paper, hands))
        wide = Net(120, [(at, at + 60) for at in range(60)], [], list(range(60, 120)), dict.fromkeys(range(60), 2))
        self.assertEqual(waves(wide, lots_of(wide)), (tuple(range(60)),))
        self.assertEqual(len(rounds(wide, lots_of(wide), 7)), 9)

    def test_errors(self):
        for value in (*odd_values(), str(PATH)):
            self.assertEqual(raised(waves, value, None), ("BadNet", "net"))
            self.assertEqual(raised(rounds, value, None, None), ("BadNet", "net"))
        for value in (*odd_values(), Paper("lots", *STEPS.parts), Stuck(*STEPS.parts), Fewest(*STEPS.parts), Lots([], []),
                      Lots([[1], [0]], STEPS.lots), Lots([[0], [True]], STEPS.lots)):
            self.assertEqual(raised(waves, PATH, value), ("BadLots", "paper"))
            self.assertEqual(raised(rounds, PATH, value, None), ("BadLots", "paper"))
        for value in (*odd_values(), 0, 9, -1, 10 ** 30, 1.0):
            self.assertEqual(raised(rounds, PATH, STEPS, value), ("BadNumber", "hands"))
        self.assertEqual(rounds(hands=8, paper=STEPS, net=PATH), ((0,), (1,)))
        self.assertEqual(waves(paper=STEPS, net=PATH), ((0,), (1,)))


class Own:
    """What a house should be, told by plain lists and sets."""

    def __init__(self, net, paper, hands):
        self.net, self.paper = net, paper
        self.before = befores(net, paper)
        self.held, self.given, self.falls = [None] * hands, set(), {}

    def free(self):
        return [thing for thing in self.net.looked
                if thing not in self.falls and self.before[thing] <= set(self.falls) and thing not in self.held]

    def give(self, hand):
        if self.held[hand] is None and self.free():
            self.held[hand] = self.free()[0]
            self.given.add(self.held[hand])
        thing = self.held[hand]
        return None if thing is None else (thing, turn_now(self.net, dict(self.paper.lots), thing, self.falls))

    def hears(self, thing, fall):
        if thing not in self.given:
            return ("NoName", thing)
        if thing in self.falls:
            return False if self.falls[thing] == fall else ("Twice", thing)
        self.falls[thing] = fall
        self.held = [None if other == thing else other for other in self.held]
        return True

    def lost(self, hand):
        thing, self.held[hand] = self.held[hand], None
        return thing

    def state(self):
        return (len(self.held), tuple(self.held), tuple(sorted(self.falls.items())), tuple(self.falls),
                set(self.falls) == set(self.net.looked))


def told(call, *args):
    """What a call returns, or the error that it raises."""
    found = []
    error = raised(lambda: found.append(call(*args)))
    return error or found[0]


class DrawnHandsTest(unittest.TestCase):
    def play(self, steps, net, paper, spread, hands):
        """Lets hands do what is drawn until all is heard; returns the house."""
        house, own = House(net, paper, spread, hands), Own(net, paper, hands)
        self.assertEqual(state(house), own.state())
        for _ in range(400):
            if house.done and steps.below(3) == 0:
                break
            act, hand = steps.below(12), steps.below(hands)
            if act < 5:
                self.assertEqual(house.give(hand), own.give(hand))
            elif act < 6:
                self.assertEqual(house.lost(hand), own.lost(hand))
            else:
                thing = house.held[hand] if act < 9 and house.held[hand] is not None else steps.below(net.things)
                fall = steps.below(2)
                self.assertEqual(told(house.hears, thing, fall), own.hears(thing, fall))
            self.assertEqual(state(house), own.state())
            if not house.done:
                self.assertEqual(raised(house.end), ("Nothing",))
        self.assertTrue(house.done)
        return house

    def test_one_end(self):
        steps = Steps(112)
        for net, paper in drawn_papers(113, 40, 6):
            spread = steps.spread(len(net.given), 3)
            bare = plain_form(left_of(net, spread, range(net.things), net.turns, net.kept))
            for hands in (1, 2, 3, 8):
                house = self.play(steps, net, paper, spread, hands)
                for _ in range(2):
                    before = state(house)
                    self.assertEqual(house.end(), bare)
                    self.assertEqual(state(house), before)
                self.assertTrue(is_let(net, paper, house.order))
                falls = [dict(house.known)[thing] for thing in house.order]
                self.assertEqual(end_of(net, paper, spread, house.order, falls), bare)
                for hand in range(hands):
                    self.assertIsNone(house.give(hand))

    def test_never_stuck(self):
        # As long as all hands ask and something is not heard, some hand has something.
        steps = Steps(114)
        for net, paper in drawn_papers(115, 30, 7):
            for hands in (1, 2, 5):
                house = House(net, paper, even(len(net.given)), hands)
                while not house.done:
                    had = [thing for thing in (house.give(hand) for hand in range(hands)) if thing]
                    self.assertTrue(had)
                    self.assertEqual(len(set(had)), len(had))
                    self.assertIs(house.hears(had[steps.below(len(had))][0], steps.below(2)), True)
                self.assertEqual(len(house.order), len(net.looked))

    def test_in_rounds(self):
        steps = Steps(116)
        for net, paper in drawn_papers(117, 30, 6):
            for hands in range(1, 9):
                house = House(net, paper, even(len(net.given)), hands)
                found = []
                while not house.done:
                    had = [pair[0] for pair in map(house.give, range(hands)) if pair is not None]
                    found.append(tuple(had))
                    for thing in had[::-1]:
                        house.hears(thing, steps.below(2))
                self.assertEqual(tuple(found), rounds(net, paper, hands))


class HouseTest(unittest.TestCase):
    def test_begin(self):
        for hands in range(1, 9):
            house = House(PATH, STEPS, even(1), hands)
            self.assertEqual(state(house), (hands, (None,) * hands, (), (), False))
            self.assertIsInstance(house.held, tuple)
            self.assertIs(house.done, False)

    def test_asks_again(self):
        house = House(BOTH, RIGHT, even(2), 2)
        self.assertEqual([house.give(1) for _ in range(3)], [(0, 1)] * 3)
        self.assertEqual(house.held, (None, 0))
        self.assertEqual([house.give(0), house.give(1), house.held], [(1, 3), (0, 1), (1, 0)])

    def test_late_twice_and_the_other_fall(self):
        house = House(BOTH, RIGHT, even(2), 3)
        house.give(0)
        self.assertEqual([house.lost(0), house.held, house.lost(0)], [0, (None,) * 3, None])
        # Nobody has it now: what is told late of it counts.
        self.assertIs(house.hears(0, 1), True)
        self.assertEqual([house.give(0), house.give(1), house.give(2)], [(1, 3), None, None])
        self.assertIs(house.hears(0, 1), False)
        self.assertEqual(raised(house.hears, 0, 0), ("Twice", 0))
        self.assertEqual(state(house), (3, (1, None, None), ((0, 1),), (0,), False))
        self.assertEqual(house.lost(0), 1)
        self.assertEqual(house.give(2), (1, 3))
        self.assertIs(house.hears(1, 0), True)
        self.assertEqual(state(house), (3, (None,) * 3, ((0, 1), (1, 0)), (0, 1), True))

    def test_what_another_hand_has_now(self):
        house = House(BOTH, RIGHT, even(2), 2)
        house.give(0)
        house.lost(0)
        self.assertEqual(house.give(1), (0, 1))
        self.assertEqual(house.give(0), (1, 3))
        self.assertIs(house.hears(0, 0), True)
        self.assertEqual(house.held, (1, None))
        self.assertIsNone(house.give(1))

    def test_turns_now(self):
        for first, turn in ((0, 3), (1, 5)):
            house = House(PATH, STEPS, even(1), 2)
            self.assertEqual([house.give(0), house.give(1)], [(0, 1), None])
            house.hears(0, first)
            self.assertEqual([house.give(1), house.give(0)], [(1, turn), None])

    def test_no_looked_thing(self):
        net = Net(3, [(0, 1), (0, 2)], [1], [2, 1, 0], [])
        house = House(net, Lots([], []), [ONE, (0, 1, 0, 0)], 2)
        self.assertEqual(state(house), (2, (None, None), (), (), True))
        self.assertIsNone(house.give(1))
        self.assertIsNone(house.lost(1))
        self.assertEqual(raised(house.hears, 0, 0), ("NoName", 0))
        self.assertEqual(house.end(), plain_form(left_of(net, [ONE, (0, 1, 0, 0)], range(3), [], net.kept)))

    def test_what_was_passed_may_change(self):
        spread = as_lists(even(1))
        house, other = House(PATH, STEPS, spread, 1), House(PATH, STEPS, even(1), 1)
        spread[0][0] = 7
        spread.clear()
        for one in (house, other):
            for fall in (1, 0):
                one.hears(one.give(0)[0], fall)
        self.assertEqual((house.end(), state(house)), (other.end(), state(other)))

    def test_equal_only_to_itself(self):
        house = House(PATH, STEPS, even(1), 1)
        self.assertEqual(house, house)
        self.assertNotEqual(house, None)


class LiveTest(unittest.TestCase):
    def test_at_a_fall(self):
        net = Net(14, [(0, at) for at in range(1, 13)] + [(13, 1)], [0, 13], list(range(1, 13)), [(0, 1), (13, 2)])
        house = House(net, lots_of(net), even(2), 3)
        self.assertEqual([house.give(0), house.give(1)], [(0, 1), (13, 2)])
        before = state(house)
        for fall in (0, 1, 1):
            self.assertEqual(raised(house.hears, 0, fall), ("TooMany", "live", 12))
            self.assertEqual(state(house), before)
        self.assertEqual(house.give(0), (0, 1))
        self.assertEqual(raised(house.end), ("Nothing",))
        self.assertIs(house.hears(13, 1), True)
        self.assertEqual(raised(house.hears, 0, 1), ("TooMany", "live", 12))
        self.assertEqual(state(house), (3, (0, None, None), ((13, 1),), (13,), False))
        self.assertEqual(house.lost(0), 0)
        self.assertEqual(raised(house.hears, 0, 1), ("TooMany", "live", 12))

    def test_twelve_at_a_fall(self):
        net = Net(12, [(0, at) for at in range(1, 12)], [0], list(range(1, 12)), [(0, 1)])
        house = House(net, lots_of(net), even(1), 1)
        house.give(0)
        self.assertIs(house.hears(0, 1), True)
        self.assertEqual(len(house.end()), 2048)

    def test_for_the_end(self):
        for many in (12, 13):
            net = Net(many + 1, [(0, 1)], [], list(range(1, many + 1)), [(0, 3)])
            house = House(net, Lots([[0]], [(0, [1])]), [ONE], 1)
            house.give(0)
            house.hears(0, 1)
            before = state(house)
            if many == 12:
                self.assertEqual(len(house.end()), 4096)
            else:
                self.assertEqual(raised(house.end), ("TooMany", "live", 12))
                self.assertEqual(raised(house.end), ("TooMany", "live", 12))
            self.assertEqual(state(house), before)

    def test_at_the_beginning(self):
        wide = Net(13, [], list(range(13)), list(range(13)), [])
        self.assertEqual(raised(House, wide, Lots([], []), [ONE] * 8192, 1), ("BadSpread", "spread"))
        self.assertEqual(raised(House, wide, Lots([], []), even(12), 1), ("Misfit", "spread"))
        net = Net(12, [(0, 11)], list(range(12)), list(range(12)), [])
        self.assertIs(House(net, Lots([], []), even(12), 1).done, True)

    def test_many_things(self):
        deeds = [("mix", 0), ("mix", 1), ("sign", 0, 1), ("turn", 1, 3), ("mix", 2), ("sign", 1, 2)] * 18
        program = Program(3, deeds)
        net, paper = net_of(program), lots_for(program)
        self.assertGreater(net.things, 50)
        ends = []
        for hands in (1, 4):
            steps = Steps(118 + hands)
            house = House(net, paper, of_bits([0, 1, 0]), hands)
            while not house.done:
                house.give(steps.below(hands))
                had = [thing for thing in house.held if thing is not None]
                if had:
                    house.hears(had[steps.below(len(had))], steps.below(2))
            ends.append(house.end())
        order = first_order(net, paper)
        self.assertEqual(ends, [end_of(net, paper, of_bits([0, 1, 0]), order, [0] * len(order))] * 2)


class ErrorsTest(unittest.TestCase):
    def test_made(self):
        for value in (*odd_values(), str(PATH)):
            self.assertEqual(raised(House, value, None, None, None), ("BadNet", "net"))
        for value in (*odd_values(), Paper("lots", *STEPS.parts), Lots([[1], [0]], STEPS.lots), Lots([], [])):
            self.assertEqual(raised(House, PATH, value, None, None), ("BadLots", "paper"))
        for value in (*odd_values(), [NONE, NONE], [ONE] * 3, [ONE, (True, 0, 0, 0)]):
            self.assertEqual(raised(House, PATH, STEPS, value, None), ("BadSpread", "spread"))
        for value in (*odd_values(), 0, 9, -1, 2.0):
            # The number of hands comes before what does not fit together.
            self.assertEqual(raised(House, PATH, STEPS, even(2), value), ("BadNumber", "hands"))
            self.assertEqual(raised(House, PATH, STEPS, even(1), value), ("BadNumber", "hands"))
        for many in (0, 2, 12):
            self.assertEqual(raised(House, PATH, STEPS, even(many), 1), ("Misfit", "spread"))
        self.assertIsNone(raised(House, hands=8, net=PATH, paper=STEPS, spread=even(1)))

    def test_hands(self):
        house = House(BOTH, RIGHT, even(2), 2)
        house.give(1)
        before = state(house)
        for value in (*odd_values(), -1, 2, 0.0, 10 ** 30):
            self.assertEqual(raised(house.give, value), ("BadNumber", "hand"))
            self.assertEqual(raised(house.lost, value), ("BadNumber", "hand"))
            self.assertEqual(state(house), before)
        self.assertEqual(house.lost(hand=1), 0)
        self.assertEqual(house.give(hand=1), (0, 1))

    def test_things_and_falls(self):
        house = House(BOTH, RIGHT, even(2), 2)
        self.assertEqual(raised(house.hears, 0, 0), ("NoName", 0))
        house.give(0)
        before = state(house)
        for value in (*odd_values(), -1, 1, 2, 4, 0.0, 10 ** 5000, Oddity()):
            for fall in (0, None):
                error = raised(house.hears, value, fall)
                self.assertEqual(error[0], "NoName")
                self.assertIs(error[1], value)
        for value in (*odd_values(), 2, -1, 0.0):
            self.assertEqual(raised(house.hears, 0, value), ("BadFalls", "fall"))
        self.assertEqual(state(house), before)
        self.assertIs(house.hears(fall=1, thing=0), True)
        for value in (*odd_values(), 2, -1):
            self.assertEqual(raised(house.hears, 0, value), ("BadFalls", "fall"))
        self.assertEqual(raised(house.hears, 0, 0), ("Twice", 0))

    def test_false_names_no_thing(self):
        house = House(BOTH, RIGHT, even(2), 2)
        house.give(0)
        house.give(1)
        for value in (False, True, 0.0, 1.0):
            self.assertEqual(raised(house.hears, value, 0), ("NoName", value))
        self.assertEqual(house.known, ())


if __name__ == "__main__":
    unittest.main()
