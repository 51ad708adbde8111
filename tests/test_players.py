"""Players: each attribute behind each look, and the end, against sums over all bits of what is gone."""

import unittest

from helpers import Oddity, Steps, as_lists, odd_values, raised
from lookmade.lots import Fewest, Lots, Stuck, lots_of
from lookmade.nets import Net
from lookmade.papers import Paper
from lookmade.players import Player
from lookmade.spreads import even, exchanged, of_bits, plain_form, signed
from trials import drawn_papers, left_of, length, near, orders, turn_now, waited

ONE, NONE = (1, 0, 0, 0), (0, 0, 0, 0)
PATH = Net(3, [(0, 1), (1, 2)], [0], [2], {0: 1, 1: 3})
STEPS = Lots([[0], [1]], [(0, [1]), (1, [2])])


def state(player):
    return (player.net, player.heard, player.live, player.most, player.length)


def long_end(net, lots, spread, falls):
    """The end: what is left by the turns that were told, put right; falls are pairs in their order."""
    turns = whole_turns(net, lots, falls)
    found = left_of(net, spread, range(net.things), turns, net.kept)
    told = dict(falls)
    for place, thing in enumerate(net.kept):
        exchanging, signing = waited(net, lots, thing)
        if sum(told[one] for one in exchanging) % 2:
            found = exchanged(found, place)
        if sum(told[one] for one in signing) % 2:
            found = signed(found, place)
    return plain_form(found)


def whole_turns(net, lots, falls):
    told, found = {}, []
    for thing, fall in falls:
        found.append((thing, turn_now(net, lots, thing, told) + 4 * fall))
        told[thing] = fall
    return found


class RunsTest(unittest.TestCase):
    def check_state(self, player, net, lots, spread, heard, made, most):
        gone = {thing for thing, _ in heard}
        live = tuple(sorted(made - gone))
        before = {thing: set(sum(waited(net, lots, thing), ())) for thing in net.looked}
        self.assertEqual(player.net, net)
        self.assertEqual(player.heard, tuple(heard))
        self.assertEqual(player.live, live)
        self.assertEqual(player.most, most)
        self.assertEqual(player.length, length(left_of(net, spread, made, whole_turns(net, lots, heard), live)))
        self.assertEqual(player.ready(), tuple(thing for thing in net.looked if thing not in gone and before[thing] <= gone))

    def play(self, net, paper, spread, order, falls):
        lots, heard = dict(paper.lots), []
        player = Player(net, paper, spread)
        made, most = set(net.given), len(net.given)
        self.check_state(player, net, lots, spread, heard, made, most)
        for thing, fall in zip(order, falls):
            turn = turn_now(net, lots, thing, dict(heard))
            self.assertEqual(player.asks(thing), turn)
            self.check_state(player, net, lots, spread, heard, made, most)
            self.assertEqual(raised(player.end), ("Misfit", "end"))
            self.assertEqual(player.look(thing, fall), turn)
            made |= {thing} | near(net, thing)
            most = max(most, len(made) - len(heard))
            heard.append((thing, fall))
            self.check_state(player, net, lots, spread, heard, made, most)
            self.assertEqual(raised(player.asks, thing), ("Twice", thing))
        end = player.end()
        self.assertEqual(end, long_end(net, lots, spread, heard))
        made |= set(net.kept)
        most = max(most, len(net.kept))
        for _ in range(2):
            self.check_state(player, net, lots, spread, heard, made, most)
            self.assertEqual(player.end(), end)
        return end

    def test_drawn_runs(self):
        steps = Steps(51)
        for net, paper in drawn_papers(52, 60):
            spread = of_bits([steps.below(2) for _ in net.given]) if steps.below(2) else steps.spread(len(net.given), 3)
            let = orders(net, dict(paper.lots))
            ends = []
            for _ in range(3):
                order = let[steps.below(len(let))]
                ends.append(self.play(net, paper, spread, order, [steps.below(2) for _ in order]))
            self.assertEqual(ends, ends[:1] * 3)
            bare = left_of(net, spread, range(net.things), net.turns, net.kept)
            self.assertEqual(ends[0], plain_form(bare))

    def test_kinds(self):
        player = Player(PATH, STEPS, even(1))
        player.look(0, 1)
        for part in (player.heard, player.heard[0], player.live, player.length, player.ready()):
            self.assertIsInstance(part, tuple)

    def test_nothing_looked_at(self):
        net = Net(3, [(0, 1), (0, 2)], [1], [2, 1, 0], [])
        player = Player(net, Lots([], []), [ONE, (0, 1, 0, 0)])
        self.assertEqual((state(player)[1:], player.ready()), (((), (1,), 1, (2, 0)), ()))
        self.assertEqual(player.end(), long_end(net, {}, [ONE, (0, 1, 0, 0)], []))
        self.assertEqual(state(player)[1:], ((), (0, 1, 2), 3, (8, 0)))

    def test_given_in_another_order(self):
        net = Net(4, [(0, 1), (0, 2), (1, 3)], [1, 0], [3, 2], [(0, 1), (1, 6)])
        paper = Lots([[0, 1]], [(0, [2]), (1, [3])])
        spread = [ONE, (0, 2, 0, 0), (3, 0, 0, 1), (0, 0, 5, 0)]
        for falls in ((0, 0), (0, 1), (1, 0), (1, 1)):
            self.play(net, paper, spread, (0, 1), falls)
            self.play(net, paper, spread, (1, 0), falls)

    def test_nothing_left(self):
        # Nothing is kept: the last thing is given, and what it leaves is one amount alone.
        net = Net(2, [(0, 1)], [], [0, 1], [])
        self.assertEqual(Player(net, Lots([], []), [ONE]).end(), (ONE, ONE, ONE, (-1, 0, 0, 0)))


class LiveTest(unittest.TestCase):
    def test_thirteen_at_a_look(self):
        net = Net(14, [(0, at) for at in range(1, 13)] + [(13, 1)], [0, 13], list(range(1, 13)), [(0, 1), (13, 2)])
        paper = lots_of(net)
        player = Player(net, paper, even(2))
        before = state(player)
        self.assertEqual(raised(player.look, 0, 0), ("TooMany", "live", 12))
        self.assertEqual((state(player), player.ready(), player.asks(0)), (before, (0, 13), 1))
        player.look(13, 0)
        self.assertEqual((player.live, player.most), ((0, 1), 3))
        self.assertEqual(raised(player.look, 0, 1), ("TooMany", "live", 12))
        self.assertEqual((player.live, player.most, player.heard), ((0, 1), 3, ((13, 0),)))

    def test_twelve_at_a_look(self):
        net = Net(12, [(0, at) for at in range(1, 12)], [0], list(range(1, 12)), [(0, 1)])
        player = Player(net, lots_of(net), [(3, 1, 4, 1), (5, 9, 2, 6)])
        self.assertEqual(player.look(0, 1), 1)
        self.assertEqual((player.live, player.most), (tuple(range(1, 12)), 12))
        other = Player(net, lots_of(net), [(3, 1, 4, 1), (5, 9, 2, 6)])
        other.look(0, 0)
        self.assertEqual(other.end(), player.end())

    def test_twelve_and_thirteen_for_the_end(self):
        for many in (12, 13):
            net = Net(many + 1, [(0, 1)], [], list(range(1, many + 1)), [(0, 3)])
            player = Player(net, Lots([[0]], [(0, [1])]), [ONE])
            player.look(0, 1)
            before = state(player)
            if many == 12:
                self.assertEqual(len(player.end()), 4096)
                self.assertEqual((player.live, player.most), (net.kept, 12))
            else:
                self.assertEqual(raised(player.end), ("TooMany", "live", 12))
                self.assertEqual(raised(player.end), ("TooMany", "live", 12))
                self.assertEqual(state(player), before)

    def test_twelve_and_thirteen_at_the_beginning(self):
        net = Net(12, [(0, 11)], list(range(12)), list(range(12)), [])
        player = Player(net, Lots([], []), even(12))
        self.assertEqual((player.live, player.most, player.length), (tuple(range(12)), 12, (4096, 0)))
        wide = Net(13, [], list(range(13)), list(range(13)), [])
        self.assertEqual(raised(Player, wide, Lots([], []), even(12)), ("Misfit", "spread"))
        self.assertEqual(raised(Player, wide, Lots([], []), [ONE] * 8192), ("BadSpread", "spread"))

    def test_a_net_of_many_things(self):
        strings = [(at, at + 4) for at in range(116)] + [(at, at + 1) for at in range(2, 112, 8)]
        net = Net(120, strings, [0, 1, 2, 3], [116, 117, 118, 119], {thing: thing % 8 for thing in range(116)})
        ends = []
        for start in (53, 54):
            steps = Steps(start)
            player = Player(net, lots_of(net), of_bits([0, 1, 1, 0]))
            while player.ready():
                player.look(player.ready()[0], steps.below(2))
            self.assertLessEqual(player.most, 9)
            ends.append(player.end())
        self.assertEqual(ends[0], ends[1])


class ErrorsTest(unittest.TestCase):
    def test_made(self):
        parts = STEPS.parts
        for value in odd_values():
            self.assertEqual(raised(Player, value, None, None), ("BadNet", "net"))
        for value in (*odd_values(), Paper("lots", *parts), Stuck(*parts), Fewest(*parts), Lots([[0], [True]], parts[1]),
                      Lots([[1], [0]], parts[1]), Lots([], [])):
            self.assertEqual(raised(Player, PATH, value, None), ("BadLots", "paper"))
        for value in (*odd_values(), [NONE, NONE], [ONE] * 3, [ONE, (True, 0, 0, 0)]):
            self.assertEqual(raised(Player, PATH, STEPS, value), ("BadSpread", "spread"))
        for many in (0, 2, 12):
            self.assertEqual(raised(Player, PATH, STEPS, even(many)), ("Misfit", "spread"))
        self.assertIsNone(raised(Player, net=PATH, paper=STEPS, spread=even(1)))

    def test_asks_and_look(self):
        player = Player(PATH, STEPS, even(1))
        for value in (*odd_values(), -1, 2, 3, 1.0, Oddity()):
            before = state(player)
            self.assertEqual(raised(player.asks, value), ("BadNumber", "thing"))
            self.assertEqual(raised(player.look, value, 0), ("BadNumber", "thing"))
            self.assertEqual(raised(player.look, value, 7), ("BadNumber", "thing"))
            self.assertEqual(state(player), before)
        self.assertEqual(raised(player.asks, 1), ("Misfit", "thing"))
        self.assertEqual(raised(player.look, 1, 0), ("Misfit", "thing"))
        self.assertEqual(raised(player.end), ("Misfit", "end"))
        for value in (*odd_values(), 2, -1, 0.0):
            self.assertEqual(raised(player.look, 0, value), ("BadFalls", "fall"))
            self.assertEqual(raised(player.look, 1, value), ("BadFalls", "fall"))
        self.assertEqual((player.heard, player.live, player.most), ((), (0,), 1))
        self.assertEqual(player.look(thing=0, fall=1), 1)
        for value in (*odd_values(), 2, -1):
            self.assertEqual(raised(player.look, 0, value), ("BadFalls", "fall"))
        self.assertEqual(raised(player.look, 0, 1), ("Twice", 0))
        self.assertEqual(raised(player.asks, thing=0), ("Twice", 0))
        self.assertEqual(player.look(1, 0), 5)
        self.assertEqual(raised(player.look, 1, 0), ("Twice", 1))
        self.assertEqual(raised(player.look, 2, 0), ("BadNumber", "thing"))

    def test_what_was_passed_may_change(self):
        spread, strings, given, kept, turns = as_lists(even(1)), [[0, 1], [1, 2]], [0], [2], {0: 1, 1: 3}
        layers, lots = [[0], [1]], [[0, [1]], [1, [2]]]
        net, paper = Net(3, strings, given, kept, turns), Lots(layers, lots)
        player, other = Player(net, paper, spread), Player(PATH, STEPS, even(1))
        spread[0][0] = 7
        spread.clear()
        for told in (strings, given, kept, turns, layers, lots):
            told.clear()
        for thing, fall in ((0, 1), (1, 1)):
            self.assertEqual(player.look(thing, fall), other.look(thing, fall))
        self.assertEqual((player.end(), state(player)), (other.end(), state(other)))

    def test_equal_only_to_itself(self):
        player = Player(PATH, STEPS, even(1))
        self.assertEqual(player, player)
        self.assertNotEqual(player, None)


if __name__ == "__main__":
    unittest.main()
