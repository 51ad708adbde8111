"""Pictures and courses, read back from their rows, and told once more by own turns now."""

import unittest

from helpers import Oddity, Steps, as_lists, odd_values, raised
from lookmade.lots import Fewest, Lots, Stuck, lots_of
from lookmade.made import lots_for, net_of
from lookmade.nets import Net
from lookmade.papers import Paper
from lookmade.pictures import course, picture
from lookmade.players import Player
from lookmade.programs import Program
from lookmade.spreads import even
from trials import drawn_papers, near, orders, turn_now, waited

PATH = Net(3, [(0, 1), (1, 2)], [0], [2], {0: 1, 1: 3})
STEPS = Lots([[0], [1]], [(0, [1]), (1, [2])])
BOTH = Net(4, [(0, 2), (1, 3)], [0, 1], [2, 3], [(0, 1), (1, 3)])
RIGHT = [(0, [2]), (1, [3])]


def read_back(rows, given, kept):
    """The net and the layers that a picture shows; given and kept tell the orders alone."""
    strings, turns, layers = set(), {}, []
    for at, row in enumerate(rows):
        thing, signs, mark, *ties = row.split(" ")
        assert (int(thing), str(at)) == (at, thing)
        assert (mark == ">") == (at in given) and mark in (">", "-")
        assert (signs[-1] == "=") == (at in kept) and signs[-1] in ("=", ".")
        layers = layers or [[] for _ in signs[:-1]]
        assert len(layers) == len(signs) - 1
        found = [(layer, sign) for layer, sign in enumerate(signs[:-1]) if sign != "."]
        assert len(found) == (at not in kept)
        for layer, sign in found:
            layers[layer].append(at)
            turns[at] = int(sign)
        assert ties == ["-"] or ties == [str(tie) for tie in sorted(map(int, ties))]
        strings |= {frozenset((at, int(tie))) for tie in ties if tie != "-"}
    return Net(len(rows), [tuple(string) for string in strings], given, kept, turns), tuple(map(tuple, layers))


def own_picture(net, layers):
    rows = []
    for thing in range(net.things):
        signs = "".join(str(dict(net.turns)[thing]) if thing in layer else "." for layer in layers)
        signs += "=" if thing in net.kept else "."
        ties = sorted(near(net, thing))
        rows.append(" ".join([str(thing), signs, ">" if thing in net.given else "-", *(map(str, ties) if ties else "-")]))
    return tuple(rows)


class PictureTest(unittest.TestCase):
    def test_drawn(self):
        for net, paper in drawn_papers(151, 60, 6):
            rows = picture(net, paper)
            self.assertIsInstance(rows, tuple)
            self.assertEqual(rows, own_picture(net, paper.layers))
            self.assertEqual(read_back(rows, net.given, net.kept), (net, paper.layers))

    def test_given_and_kept(self):
        net = Net(3, [(0, 1), (0, 2)], [1], [2, 1, 0], [])
        self.assertEqual(picture(net, Lots([], [])), ("0 = - 1 2", "1 = > 0", "2 = - 0"))

    def test_without_strings(self):
        net = Net(2, [], [1], [0, 1], [])
        self.assertEqual(picture(net, Lots([], [])), ("0 = - -", "1 = > -"))

    def test_layers_parted_further(self):
        self.assertEqual(picture(BOTH, Lots([[0, 1]], RIGHT)), ("0 1. > 2", "1 3. > 3", "2 .= - 0", "3 .= - 1"))
        self.assertEqual(picture(BOTH, Lots([[0], [1]], RIGHT)), ("0 1.. > 2", "1 .3. > 3", "2 ..= - 0", "3 ..= - 1"))
        self.assertEqual(picture(BOTH, Lots([[1], [0]], RIGHT)), ("0 .1. > 2", "1 3.. > 3", "2 ..= - 0", "3 ..= - 1"))

    def test_neighbours_ascend_as_numbers(self):
        net = Net(12, [(0, at) for at in range(1, 12)], [], list(range(1, 12)), [(0, 7)])
        self.assertEqual(picture(net, lots_of(net))[0], "0 7. - 1 2 3 4 5 6 7 8 9 10 11")
        self.assertEqual(picture(net, lots_of(net))[10], "10 .= - 0")

    def test_many_things(self):
        strings = [(at, at + 4) for at in range(116)] + [(at, at + 1) for at in range(2, 112, 8)]
        net = Net(120, strings, [0, 1, 2, 3], [116, 117, 118, 119], {thing: thing % 8 for thing in range(116)})
        paper = lots_of(net)
        self.assertEqual(read_back(picture(net, paper), net.given, net.kept), (net, paper.layers))

    def test_errors(self):
        for value in (*odd_values(), str(PATH)):
            self.assertEqual(raised(picture, value, None), ("BadNet", "net"))
        for value in (*odd_values(), Paper("lots", *STEPS.parts), Stuck(*STEPS.parts), Fewest(*STEPS.parts), Lots([], []),
                      Lots([[1], [0]], STEPS.lots), Lots([[0], [True]], STEPS.lots), Lots([[0, 1]], RIGHT)):
            self.assertEqual(raised(picture, PATH, value), ("BadLots", "paper"))
        self.assertEqual(picture(paper=STEPS, net=PATH), ("0 1.. > 1", "1 .3. - 0 2", "2 ..= - 1"))


class CourseTest(unittest.TestCase):
    def test_drawn(self):
        steps = Steps(152)
        for net, paper in drawn_papers(153, 50, 6):
            lots = dict(paper.lots)
            let = orders(net, lots)
            order = let[steps.below(len(let))]
            heard = [(thing, steps.below(2)) for thing in order]
            for many in range(len(heard) + 1):
                rows = []
                for at in range(many):
                    thing, fall = heard[at]
                    now = turn_now(net, lots, thing, dict(heard[:at]))
                    rows.append(f"{thing} turn {dict(net.turns)[thing]} now {now} fall {fall}")
                self.assertEqual(course(net, paper, heard[:many]), tuple(rows))
                self.assertEqual(course(net, paper, as_lists(heard[:many])), tuple(rows))
                self.assertEqual(course(net, paper, tuple(heard[:many])), tuple(rows))

    def test_as_players_tell(self):
        steps = Steps(154)
        for net, paper in drawn_papers(155, 30, 6):
            player, rows = Player(net, paper, even(len(net.given))), []
            while player.ready():
                thing, fall = player.ready()[steps.below(len(player.ready()))], steps.below(2)
                now = player.look(thing, fall)
                rows.append(f"{thing} turn {dict(net.turns)[thing]} now {now} fall {fall}")
            self.assertEqual(course(net, paper, player.heard), tuple(rows))

    def test_too_early(self):
        found = 0
        for net, paper in drawn_papers(156, 40, 6):
            for thing in net.looked:
                before = sum(waited(net, dict(paper.lots), thing), ())
                self.assertEqual(raised(course, net, paper, [(thing, 0)]), ("Misfit", "heard") if before else None)
                found += len(before) > 0
                for other in before:
                    heard = [(one, 0) for one in orders(net, dict(paper.lots))[0] if one != other]
                    self.assertEqual(raised(course, net, paper, heard), ("Misfit", "heard"))
                    self.assertEqual(raised(course, net, paper, [*heard, (other, 1)]), ("Misfit", "heard"))
        self.assertGreater(found, 20)

    def test_none(self):
        self.assertEqual(course(PATH, STEPS, []), ())
        self.assertEqual(course(PATH, STEPS, ()), ())
        net = Net(1, [], [], [0], [])
        self.assertEqual(course(net, Lots([], []), []), ())
        self.assertEqual(raised(course, net, Lots([], []), [(0, 0)]), ("BadFalls", "heard"))

    def test_errors(self):
        for value in (*odd_values(), str(PATH)):
            self.assertEqual(raised(course, value, None, None), ("BadNet", "net"))
        for value in (*odd_values(), Paper("lots", *STEPS.parts), Lots([], []), Lots([[1], [0]], STEPS.lots)):
            self.assertEqual(raised(course, PATH, value, None), ("BadLots", "paper"))
        for value in (None, True, 0, "", "00", {0: 0}, {}, {(0, 0)}, Oddity(), [0], [(0,)], [(0, 0, 0)], [(0, 2)], [(0, -1)],
                      [(0, True)], [(0, 0.0)], [(0, None)], [(False, 0)], [(0.0, 0)], [("0", 0)], [(3, 0)], [(-1, 0)], [(2, 0)],
                      [(0, 0), (0, 0)], [(0, 0), (0, 1)], [(0, 0), (1, 0), (0, 0)], [(0, 0), (1, 0), (2, 0)], [None], [()], [[]],
                      ((0, 0), 1), [(120, 0)], [(1, 0), (1, 0)], [(1, 0), (2, 0)], [([0], 0)], [((0, 0),)]):
            self.assertEqual(raised(course, PATH, STEPS, value), ("BadFalls", "heard"), value)
        for value in ([(1, 0)], [(1, 0), (0, 0)], ((1, 1), (0, 1))):
            self.assertEqual(raised(course, PATH, STEPS, value), ("Misfit", "heard"))
        told = ("0 turn 1 now 1 fall 1", "1 turn 3 now 5 fall 0")
        self.assertEqual(course(heard=[(0, 1), (1, 0)], paper=STEPS, net=PATH), told)

    def test_a_program(self):
        program = Program(2, [("mix", 0), ("under", 0, 1)])
        rows = course(net_of(program), lots_for(program), [(1, 1), (0, 1), (3, 0)])
        self.assertEqual(rows, ("1 turn 0 now 0 fall 1", "0 turn 0 now 0 fall 1", "3 turn 0 now 4 fall 0"))


if __name__ == "__main__":
    unittest.main()
