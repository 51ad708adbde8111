"""Papers of lots as they are told, and bent at each place: against counting."""

import unittest

from helpers import Oddity, Steps, as_lists, bent, drawn_net, odd_values, raised, renumbered, threaded_net
from lookmade.check_lots import shows_fewest, shows_lots
from lookmade.lots import Fewest, Lots, Stuck, fewest, has_lots, lots_of
from lookmade.nets import Net
from lookmade.papers import Denial, Paper
from trials import all_layers, are_right, is_even_for, rounds, some_lots, subsets


def is_number(value):
    return type(value) is int


def is_row(value, things):
    """Whether it is a tuple of some of these things, ascending."""
    return (isinstance(value, tuple) and all(is_number(thing) and thing in things for thing in value)
            and all(one < other for one, other in zip(value, value[1:])))


def are_pairs(value, things):
    """Whether it is a tuple of a pair for each of these things, ascending."""
    return (isinstance(value, tuple) and len(value) == len(things)
            and all(isinstance(pair, tuple) and len(pair) == 2 and is_number(pair[0]) for pair in value)
            and [pair[0] for pair in value] == sorted(things))


def are_lots(net, layers, lots):
    if not isinstance(layers, tuple) or not all(is_row(layer, net.looked) and layer for layer in layers):
        return False
    if sorted(sum(layers, ())) != list(net.looked) or not are_pairs(lots, net.looked):
        return False
    return all(is_row(lot, range(net.things)) for _, lot in lots) and are_right(net, layers, dict(lots))


def are_stuck(net, left, shows):
    if not is_row(left, net.looked) or not left or not are_pairs(shows, left):
        return False
    watching = set(range(net.things)) - set(left)
    return all(is_row(some, left) and thing in some and is_even_for(net, some, watching) for thing, some in shows)


def are_fewest(net, layers, shows):
    if repr(layers) != repr(rounds(net)[0]) or not are_pairs(shows, sum(layers[:-1], ())):
        return False
    for thing, some in shows:
        at = [at for at, layer in enumerate(layers) if thing in layer][0]
        watching = set(net.kept) | set(sum(layers[at + 2:], ()))
        if not is_row(some, sum(layers[:at + 2], ())) or thing not in some or not is_even_for(net, some, watching):
            return False
    return True


def namesake(paper):
    """A paper of a class of the same name that is another class, with the same attributes."""
    found = type(type(paper).__name__, (Paper,), {})(paper.word, *paper.parts)
    vars(found).update(vars(paper))
    return found


def drawn_nets(start, many, most=5):
    steps = Steps(start)
    for at in range(many):
        yield threaded_net(steps, 1 + at % 2, most)
        yield drawn_net(steps, steps.between(1, most), given=at % 4, kept=2 + at % 6, strings=5)


class LotsTest(unittest.TestCase):
    def test_papers_bent(self):
        found = [0, 0]
        for net in drawn_nets(21, 18):
            paper = lots_of(net)
            self.assertIs(shows_lots(net, paper), True)
            for parts in bent(paper.parts, range(net.things)):
                if not isinstance(parts, tuple) or len(parts) != 2:
                    continue
                self.assertIs(shows_lots(net, Lots(*parts)), are_lots(net, *parts), (str(net), parts))
                self.assertIs(shows_lots(net, Stuck(*parts)), are_stuck(net, *parts), (str(net), parts))
                found[are_lots(net, *parts) or are_stuck(net, *parts)] += 1
        self.assertGreater(found[0], 5000)
        self.assertGreater(found[1], 30)

    def test_other_layers_and_lots(self):
        steps = Steps(22)
        found = [0, 0]
        for net in drawn_nets(23, 60):
            if len(net.looked) > 4:
                continue
            for layers in all_layers(net.looked):
                lots = some_lots(steps, net, layers)
                if lots is not None:
                    self.assertIs(shows_lots(net, Lots(layers, lots)), True)
                    self.assertIs(shows_lots(net, Lots(as_lists(layers), as_lists(lots))), True)
                elif has_lots(net):
                    self.assertIs(shows_lots(net, Lots(layers, lots_of(net).lots)), False)
                found[lots is not None] += 1
        self.assertGreater(min(found), 100)

    def test_lots_of_other_nets(self):
        nets = [net for net in drawn_nets(24, 25, 4)]
        for one in nets:
            for other in nets:
                paper = lots_of(other)
                check = are_lots if paper else are_stuck
                self.assertIs(shows_lots(one, paper), check(one, *paper.parts))

    def test_stuck_of_any_things(self):
        steps = Steps(25)
        found = [0, 0]
        for net in drawn_nets(26, 60):
            for left in subsets(net.looked):
                rows = [[some for some in subsets(left) if thing in some
                         and is_even_for(net, some, set(range(net.things)) - set(left))] for thing in left]
                if left and all(rows):
                    shows = [(thing, some[steps.below(len(some))]) for thing, some in zip(left, rows)]
                    self.assertIs(shows_lots(net, Stuck(left, shows)), True)
                    self.assertFalse(has_lots(net))
                    found[1] += 1
                else:
                    self.assertIs(shows_lots(net, Stuck(left, [(thing, left) for thing in left])), False)
                    found[0] += 1
        self.assertGreater(min(found), 30)

    def test_stuck_edges(self):
        net = Net(4, [(0, 1), (1, 2), (0, 2)], [], [2, 3], {0: 0, 1: 3})
        right = Stuck([0, 1], [(0, [0, 1]), (1, [0, 1])])
        self.assertIs(shows_lots(net, right), True)
        for parts in (([], []), ([0, 1, 3], [(0, [0, 1]), (1, [0, 1]), (3, [3])]), ([3], [(3, [3])]),
                      ([1, 0], [(0, [0, 1]), (1, [0, 1])]), ([0, 1], [(1, [0, 1]), (0, [0, 1])]),
                      ([0, 1], [(0, [1, 0]), (1, [0, 1])]), ([0, 1], {0: [0, 1], 1: [0, 1]}),
                      ([0, 1], [(0, [0, 1]), (1, [0, True])]), ([0, True], [(0, [0, 1]), (1, [0, 1])])):
            self.assertIs(shows_lots(net, Stuck(*parts)), False, parts)
        lone = Net(3, [], [0], [2], {0: 0, 1: 0})
        for left in ([0], [1], [0, 1]):
            self.assertIs(shows_lots(lone, Stuck(left, [(thing, [thing]) for thing in left])), True)

    def test_no_looked_thing(self):
        net = Net(2, [(0, 1)], [1], [1, 0], [])
        self.assertIs(shows_lots(net, Lots([], [])), True)
        for parts in (([[]], []), ([], [(0, [])]), ([[0]], [(0, [1])]), (None, []), ([], None), ("", []), ([], {}), ({}, [])):
            self.assertIs(shows_lots(net, Lots(*parts)), False)

    def test_true_stands_for_no_number(self):
        net = Net(3, [(0, 1), (1, 2)], [0], [2], {0: 1, 1: 2})
        self.assertIs(shows_lots(net, Lots([[0], [1]], [(0, [1]), (1, [2])])), True)
        for parts in (([[False], [1]], [(0, [1]), (1, [2])]), ([[0], [True]], [(0, [1]), (1, [2])]),
                      ([[0], [1]], [(False, [1]), (1, [2])]), ([[0], [1]], [(0, [True]), (1, [2])]),
                      ([[0], [1]], [(0, [1]), (True, [2])]), ([[0], [1]], [(0, [1.0]), (1, [2])])):
            self.assertIs(shows_lots(net, Lots(*parts)), False)
            self.assertEqual(Lots(*parts), Lots([[0], [1]], [(0, [1]), (1, [2])]))

    def test_values_of_all_kinds(self):
        class Other(Lots):
            pass

        class Further(Stuck):
            pass

        net = Net(3, [(0, 1), (1, 2)], [0], [2], {0: 1, 1: 2})
        parts = ([[0], [1]], [(0, [1]), (1, [2])])
        stuck = Net(1, [], [], [], [(0, 0)])
        for value in (*odd_values(), parts, tuple(parts), Paper("lots", *parts), Other(*parts), Fewest(*parts), Lots, net,
                      Stuck(*parts), Denial("lots", *parts), namesake(Lots(*parts))):
            self.assertIs(shows_lots(net, value), False)
        for value in (Denial("stuck", [0], [(0, [0])]), Paper("stuck", [0], [(0, [0])]), Further([0], [(0, [0])]),
                      Lots([0], [(0, [0])]), Fewest([0], [(0, [0])]), namesake(Stuck([0], [(0, [0])]))):
            self.assertIs(shows_lots(stuck, value), False)
        self.assertIs(shows_lots(stuck, Stuck([0], [(0, [0])])), True)
        self.assertIs(shows_lots(net=net, value=Lots(*parts)), True)

    def test_wrong_net(self):
        for value in (*odd_values(), Lots([], [])):
            self.assertEqual(raised(shows_lots, value, None), ("BadNet", "net"))
            self.assertEqual(raised(shows_fewest, value, None), ("BadNet", "net"))

    def test_a_net_of_many_things(self):
        strings = [(at, at + 1) for at in range(119)]
        net = Net(120, strings, [0], [119], {thing: 3 for thing in range(119)})
        layers, lots = [[thing] for thing in range(119)], [(thing, [thing + 1]) for thing in range(119)]
        self.assertIs(shows_lots(net, Lots(layers, lots)), True)
        self.assertIs(shows_lots(net, Lots(layers, [*lots[:60], (60, [62]), *lots[61:]])), False)
        # The lot of 60 may take along what meets nothing oddly but later things.
        self.assertIs(shows_lots(net, Lots(layers, [*lots[:60], (60, [61, 80]), *lots[61:]])), True)
        self.assertIs(shows_lots(net, Lots([*layers[:3], [3, 4], *layers[5:]], lots)), False)
        shows = fewest(net).shows
        self.assertIs(shows_fewest(net, Fewest(layers, shows)), True)
        self.assertIs(shows_fewest(net, Fewest(layers, shows[1:])), False)


class FewestTest(unittest.TestCase):
    def test_papers_bent(self):
        found = [0, 0]
        for net in drawn_nets(31, 40):
            if not has_lots(net):
                self.assertEqual(raised(shows_fewest, net, None), ("Misfit", "lots"))
                self.assertEqual(raised(shows_fewest, net, Fewest([], [])), ("Misfit", "lots"))
                continue
            paper = fewest(net)
            self.assertIs(shows_fewest(net, paper), True)
            for parts in bent(paper.parts, range(net.things)):
                if isinstance(parts, tuple) and len(parts) == 2:
                    self.assertIs(shows_fewest(net, Fewest(*parts)), are_fewest(net, *parts), (str(net), parts))
                    found[are_fewest(net, *parts)] += 1
        self.assertGreater(found[0], 3000)
        self.assertGreater(found[1], 20)

    def test_all_shows(self):
        found = 0
        for net in drawn_nets(32, 40):
            layers, left = rounds(net)
            if left or len(layers) < 2 or len(net.looked) > 4:
                continue
            shows = dict(fewest(net).shows)
            for thing in shows:
                for some in subsets(range(net.things)):
                    pairs = sorted({**shows, thing: some}.items())
                    told = are_fewest(net, layers, tuple(pairs))
                    self.assertIs(shows_fewest(net, Fewest(layers, pairs)), told)
                    found += told
        self.assertGreater(found, 40)

    def test_right_layers_that_are_not_the_latest(self):
        net = Net(4, [(0, 2), (1, 2), (1, 3)], [], [2, 3], {0: 1, 1: 1})
        self.assertIs(shows_fewest(net, Fewest([[0, 1]], [])), True)
        for parts in (([[0], [1]], [(0, [0])]), ([[1], [0]], [(1, [1])]), ([[0, 1]], [(0, [0])]), ([[0, 1], []], []),
                      ([[1, 0]], []), ([[0, True]], []), ([[0, 1]], {})):
            self.assertIs(shows_fewest(net, Fewest(*parts)), False)

    def test_values_of_all_kinds(self):
        class Other(Fewest):
            pass

        net = Net(3, [(0, 1), (1, 2)], [0], [2], {0: 1, 1: 2})
        parts = ([[0], [1]], [(0, [0])])
        self.assertIs(shows_fewest(net, Fewest(*parts)), True)
        self.assertIs(shows_fewest(net=net, value=Fewest(*parts)), True)
        for value in (*odd_values(), parts, Paper("fewest", *parts), Other(*parts), Lots(*parts), Stuck(*parts), Fewest, net,
                      lots_of(net), Oddity(), namesake(Fewest(*parts))):
            self.assertIs(shows_fewest(net, value), False)

    def test_given_things_watch_nothing(self):
        # Thing 3 is given and tied to 0: it stands in no lot, so what it has of the some is not asked.
        net = renumbered(Net(4, [(0, 1), (1, 2), (0, 3)], [3], [2, 3], {0: 1, 1: 2}), [0, 1, 2, 3])
        self.assertEqual(lots_of(net).layers, ((0,), (1,)))
        self.assertIs(shows_fewest(net, Fewest([[0], [1]], [(0, [0])])), True)
        other = Net(4, [(0, 1), (1, 2), (0, 3)], [], [2, 3], {0: 1, 1: 2})
        self.assertEqual(lots_of(other).layers, ((0, 1),))


if __name__ == "__main__":
    unittest.main()
