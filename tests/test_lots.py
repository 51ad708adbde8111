"""Lots, what shows that there are none, and that there are no fewer layers: against the trial of all lots."""

import unittest

from helpers import Steps, drawn_list, drawn_net, odd_values, raised, renumbered, threaded_net
from lookmade.check_lots import shows_fewest, shows_lots
from lookmade.lots import Fewest, Lots, Stuck, fewest, has_lots, lots_of
from lookmade.nets import Net, aside_nets, with_turns
from lookmade.papers import Denial, Paper
from trials import all_layers, are_right, is_even_for, right_lots, rounds


def drawn_nets(start, many, most=6):
    steps = Steps(start)
    for at in range(many):
        yield drawn_net(steps, steps.between(1, most), given=at % 5, kept=2 + at % 7, strings=3 + at % 5)
        yield threaded_net(steps, 1 + at % 3, most)


def wires(many, long, every):
    """A net of wires of things one behind another; each so many things strings lead to the next wire."""
    strings = []
    for wire in range(many):
        for at in range(long - 1):
            strings.append((wire + many * at, wire + many * (at + 1)))
    for at in range(every, long, every):
        for wire in range((at // every) % 2, many - 1, 2):
            strings.append((wire + many * at, wire + 1 + many * at))
    kept = [wire + many * (long - 1) for wire in range(many)]
    turns = {thing: thing % 8 for thing in range(many * (long - 1))}
    return Net(many * long, strings, range(many) and list(range(many)), kept, turns)


class PapersTest(unittest.TestCase):
    def test_classes(self):
        for made, word, first, second in ((Lots, "lots", "layers", "lots"), (Stuck, "stuck", "left", "shows"),
                                          (Fewest, "fewest", "layers", "shows")):
            paper = made([1, [2]], [[3]])
            self.assertEqual((paper.word, paper.parts), (word, ((1, (2,)), ((3,),))))
            self.assertEqual((getattr(paper, first), getattr(paper, second)), paper.parts)
            self.assertEqual(paper, made(**{second: ([3],), first: (1, (2,))}))
            self.assertNotEqual(paper, made([1, [2]], [[4]]))
            self.assertNotEqual(paper, made([[3]], [1, [2]]))
            self.assertIsInstance(paper, Paper)
            self.assertEqual(isinstance(paper, Denial), made is Stuck)
            self.assertEqual(bool(paper), made is not Stuck)
            self.assertNotEqual(paper, Paper(word, *paper.parts))
            self.assertNotEqual(Paper(word, *paper.parts), paper)
            self.assertNotEqual(paper, (word, paper.parts))
            for value in odd_values():
                self.assertEqual(made(value, value).parts, (tuple(value), tuple(value)) if value in ([1], []) else (value,) * 2)
        self.assertNotEqual(Lots([], []), Fewest([], []))
        self.assertNotEqual(Stuck([], []), Denial("stuck", [], []))
        self.assertEqual(Lots([[True]], []), Lots([[1]], []))


class LotsTest(unittest.TestCase):
    def check_lots(self, net, paper, layers):
        self.assertIsInstance(paper, Lots)
        self.assertEqual(paper.layers, layers)
        self.assertEqual([thing for thing, _ in paper.lots], list(net.looked))
        self.assertTrue(all(lot == tuple(sorted(lot)) for _, lot in paper.lots))
        self.assertTrue(are_right(net, layers, dict(paper.lots)))

    def check_stuck(self, net, paper, left):
        self.assertIsInstance(paper, Stuck)
        self.assertEqual(paper.left, left)
        self.assertEqual([thing for thing, _ in paper.shows], list(left))
        for thing, some in paper.shows:
            self.assertEqual(some, tuple(sorted(set(some))))
            self.assertIn(thing, some)
            self.assertLessEqual(set(some), set(left))
            self.assertTrue(is_even_for(net, some, set(range(net.things)) - set(left)))

    def check_fewest(self, net, layers):
        paper = fewest(net)
        self.assertIsInstance(paper, Fewest)
        self.assertEqual(paper.layers, layers)
        self.assertEqual([thing for thing, _ in paper.shows], sorted(sum(layers[:-1], ())))
        for thing, some in paper.shows:
            at = [at for at, layer in enumerate(layers) if thing in layer][0]
            behind = {other for layer in layers[at + 2:] for other in layer} | set(net.kept)
            self.assertEqual(some, tuple(sorted(set(some))))
            self.assertIn(thing, some)
            self.assertLessEqual(set(some), set(sum(layers[:at + 2], ())))
            self.assertTrue(is_even_for(net, some, behind))

    def test_by_trial(self):
        found = [0, 0, 0]
        for net in drawn_nets(11, 350):
            layers, left = rounds(net)
            paper = lots_of(net)
            self.assertIs(has_lots(net), not left)
            self.assertTrue(shows_lots(net, paper))
            if left:
                self.check_stuck(net, paper, left)
                self.assertEqual(raised(fewest, net), ("Misfit", "lots"))
            else:
                self.check_lots(net, paper, layers)
                self.check_fewest(net, layers)
                self.assertTrue(shows_fewest(net, fewest(net)))
            found[0 if left else 1] += 1
            found[2] += len(layers) > 2 and not left
        self.assertGreater(min(found), 30)

    def test_latest_of_all_layers(self):
        told = 0
        for net in drawn_nets(12, 100, 5):
            if len(net.looked) > 4:
                continue
            rows = [row for row in all_layers(net.looked) if all(
                right_lots(net, thing, {other for layer in row[at + 1:] for other in layer})
                for at, layer in enumerate(row) for thing in layer)]
            self.assertIs(has_lots(net), bool(rows))
            if rows:
                latest = lots_of(net).layers
                self.assertIn(latest, rows)
                self.assertEqual(len(latest), min(map(len, rows)))
                for thing in net.looked:
                    places = [len(row) - at for row in rows for at, layer in enumerate(row) if thing in layer]
                    at = [at for at, layer in enumerate(latest) if thing in layer][0]
                    self.assertEqual(len(latest) - at, min(places))
                told += 1
        self.assertGreater(told, 40)

    def test_none_kept_none_given_all_kept(self):
        self.assertEqual(lots_of(Net(2, [(0, 1)], [], [], [(0, 0), (1, 0)])).left, (0, 1))
        self.assertEqual(lots_of(Net(1, [], [0], [], [(0, 0)])), Stuck([0], [(0, [0])]))
        self.assertEqual(lots_of(Net(2, [(0, 1)], [], [0, 1], [])), Lots([], []))
        self.assertEqual(fewest(Net(2, [(0, 1)], [1], [0, 1], [])), Fewest([], []))
        self.assertEqual(lots_of(Net(2, [(0, 1)], [0], [1], [(0, 0)])), Lots([[0]], [(0, [1])]))
        self.assertEqual(lots_of(Net(2, [(0, 1)], [1], [1], [(0, 0)])), Stuck([0], [(0, [0])]))

    def test_given_things_are_in_no_lot(self):
        # Thing 1 is given, so thing 0 has no lot, though it stands behind.
        net = Net(3, [(0, 1), (1, 2)], [1], [2], [(0, 0), (1, 0)])
        self.assertEqual(lots_of(net), Stuck([0], [(0, [0])]))
        self.assertFalse(has_lots(net))

    def test_turns_mean_nothing(self):
        for net in drawn_nets(13, 40):
            other = with_turns(net, [(thing, 7 - turn) for thing, turn in net.turns])
            self.assertEqual(lots_of(net).parts, lots_of(other).parts)

    def test_renumbered(self):
        steps = Steps(14)
        for net in drawn_nets(14, 80):
            names = drawn_list(steps, range(net.things), 10)
            other = renumbered(net, names)
            paper, moved = lots_of(net), lots_of(other)
            self.assertEqual(bool(paper), bool(moved))
            if paper:
                layers = tuple(tuple(sorted(names[thing] for thing in layer)) for layer in paper.layers)
                self.check_lots(other, moved, layers)
                self.check_fewest(other, layers)
            else:
                self.check_stuck(other, moved, tuple(sorted(names[thing] for thing in paper.left)))

    def test_the_same_again(self):
        for net in drawn_nets(15, 60):
            again = Net(net.things, [list(pair)[::-1] for pair in reversed(net.strings)], list(net.given), list(net.kept),
                        dict(reversed(net.turns)))
            self.assertEqual(lots_of(net), lots_of(again))
            if has_lots(net):
                self.assertEqual(fewest(net), fewest(again))

    def test_nets_of_many_things(self):
        for many, long, every in ((1, 120, 5), (2, 60, 3), (4, 30, 2), (6, 20, 2), (8, 15, 3)):
            net = wires(many, long, every)
            paper = lots_of(net)
            self.assertTrue(shows_lots(net, paper))
            self.assertTrue(shows_fewest(net, fewest(net)))
            self.assertGreaterEqual(len(paper.layers), 1)
            self.assertLessEqual(len(paper.layers), long - 1)
        line = wires(1, 120, 500)
        self.assertEqual(lots_of(line).layers, tuple((thing,) for thing in range(119)))
        self.assertEqual(lots_of(line).lots[:2], ((0, (1,)), (1, (2,))))
        both = aside_nets(wires(2, 30, 3), wires(3, 20, 2))
        self.assertTrue(shows_lots(both, lots_of(both)))
        steps = Steps(16)
        for chance in (1, 5, 9):
            net = drawn_net(steps, 120, given=1, kept=5, strings=chance)
            self.assertTrue(shows_lots(net, lots_of(net)))
            if has_lots(net):
                self.assertTrue(shows_fewest(net, fewest(net)))

    def test_stuck_in_a_net_of_many_things(self):
        net = wires(1, 120, 500)
        stuck = Net(120, [*net.strings, (3, 60)], [0], net.kept, net.turns)
        paper = lots_of(stuck)
        self.assertEqual(shows_lots(stuck, paper), True)
        ring = Net(120, [*[(at, at + 1) for at in range(119)], (0, 119)], [], [], {thing: 0 for thing in range(120)})
        self.check_stuck(ring, lots_of(ring), tuple(range(120)))

    def test_kinds(self):
        paper = lots_of(Net(3, [(0, 1), (1, 2)], [0], [2], {0: 1, 1: 2}))
        for part in (paper.layers, paper.layers[0], paper.lots, paper.lots[0], paper.lots[0][1]):
            self.assertIsInstance(part, tuple)

    def test_errors(self):
        for value in (*odd_values(), Lots([], []), "things 1", (1, [], [], [0], [])):
            for call in (lots_of, has_lots, fewest):
                self.assertEqual(raised(call, value), ("BadNet", "net"))
        for call in (lots_of, has_lots, fewest):
            self.assertIsNone(raised(call, net=Net(1, [], [], [0], [])))


if __name__ == "__main__":
    unittest.main()
