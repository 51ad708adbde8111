"""Point 6, first paragraph, and lookmade/nets.py: nets, their texts, and how they are put together."""

import unittest
from itertools import combinations, permutations

from forms import bad_in_net, bent_texts
from helpers import Steps, odd_values, raised
from lookmade.nets import (
    Net, aside_nets, joined_nets, neighbours, oddly_met, turn_of, with_turns,
)

NO_NETS = [*odd_values(), 3, (1, [], [], [], [(0, 0)]), "things 1", Net]
SMALL = Net(4, [(3, 1), (0, 1), (2, 0)], [2, 0], [3, 2], {1: 5, 0: 2})


def drawn(steps, things):
    """A net of so many things."""
    pairs = [pair for pair in combinations(range(things), 2) if steps.below(3) == 0]
    given = [thing for thing in range(things) if steps.below(3) == 0]
    kept = [thing for thing in range(things) if steps.below(4) == 0]
    turns = [(thing, steps.below(8)) for thing in range(things) if thing not in kept]
    return Net(things, pairs, given[::-1], kept, turns)


class NetTest(unittest.TestCase):
    def test_made(self):
        self.assertEqual(SMALL.things, 4)
        self.assertEqual(SMALL.strings, ((0, 1), (0, 2), (1, 3)))
        self.assertEqual((SMALL.given, SMALL.kept, SMALL.looked), ((2, 0), (3, 2), (0, 1)))
        self.assertEqual(SMALL.turns, ((0, 2), (1, 5)))
        one = Net(turns=(), kept=(0,), given=[0], strings=[], things=1)
        self.assertEqual((one.things, one.strings, one.given, one.kept), (1, (), (0,), (0,)))
        self.assertEqual((one.turns, one.looked), ((), ()))

    def test_strings_in_any_order(self):
        strings = ((0, 1), (1, 2), (0, 3), (2, 3))
        net = Net(4, strings, [], [], [(thing, 0) for thing in range(4)])
        self.assertEqual(net.strings, ((0, 1), (0, 3), (1, 2), (2, 3)))
        for order in permutations(strings):
            for turned in range(16):
                told = [list(pair[::-1]) if turned >> at & 1 else pair for at, pair in enumerate(order)]
                self.assertEqual(Net(4, told, [], [], {thing: 0 for thing in range(4)}), net)

    def test_given_and_kept_in_any_order(self):
        for many in range(4):
            for given in permutations(range(3), many):
                for kept in permutations(range(3), many):
                    looked = tuple(thing for thing in range(3) if thing not in kept)
                    net = Net(3, [(0, 2)], list(given), kept, {thing: 7 - thing for thing in looked})
                    self.assertEqual((net.given, net.kept, net.looked), (given, kept, looked))
                    self.assertEqual(net.turns, tuple((thing, 7 - thing) for thing in looked))

    def test_turns_in_any_order(self):
        pairs = [(0, 3), (1, 0), (2, 7)]
        for order in permutations(pairs):
            for turns in (order, list(order), dict(order), [list(pair) for pair in order]):
                self.assertEqual(Net(4, [], [], [3], turns).turns, tuple(pairs))

    def test_120_things(self):
        strings = list(combinations(range(120), 2))
        net = Net(120, strings[::-1], list(range(119, -1, -1)), [], {thing: 1 for thing in range(120)})
        self.assertEqual(net.strings, tuple(strings))
        self.assertEqual(net.given[0], 119)
        self.assertEqual(neighbours(net, 60), tuple(thing for thing in range(120) if thing != 60))
        self.assertEqual(raised(Net, 121, [], [], list(range(121)), []), ("BadNet", "things"))

    def test_wrong_things(self):
        for bad in [*odd_values(), 0, -1, 121, 10 ** 30]:
            self.assertEqual(raised(Net, bad, [], [], [], []), ("BadNet", "things"))
            self.assertEqual(raised(Net, bad, None, None, None, None), ("BadNet", "things"))

    def test_wrong_strings(self):
        wrong = [*odd_values(), 3, "01", {0: 1}, [3], [(0, 0)], [(0, 3)], [(-1, 0)], [(0, 1), (0, 1)], [(0, 1), [1, 0]]]
        wrong += [[(0, 1), (1, 2), (2, 1)], [(0,)], [(0, 1, 2)], [()], [(0, True)], [("0", "1")], [{0: 1}], [(0, None)], (0, 1)]
        for bad in wrong:
            if bad not in ([], ()):
                self.assertEqual(raised(Net, 3, bad, None, None, None), ("BadNet", "strings"))
                self.assertEqual(raised(Net, 3, bad, [], [2], [(0, 0), (1, 0)]), ("BadNet", "strings"))

    def test_wrong_given_and_kept(self):
        wrong = [*odd_values(), 3, "0", {0: 1}, [3], [-1], [0, 0], [0, True], [0, "1"], [0, 1, 2, 0], [(0, 1)], range(2)]
        for bad in wrong:
            if bad not in ([], (), [1], (1,)):
                self.assertEqual(raised(Net, 3, [], bad, None, None), ("BadNet", "given"))
                self.assertEqual(raised(Net, 3, [], [], bad, None), ("BadNet", "kept"))

    def test_wrong_turns(self):
        wrong = [*odd_values(), 3, [(0, 1)], [(0, 1), (1, 1), (2, 1)], [(0, 1), (0, 1)], [(0, 1), (1, 1), (1, 1)]]
        wrong += [[(0, 1), (2, 1)], [(0, 1), (1, 8)], [(0, 1), (1, -1)], [(0, 1), (1, True)], [(0, 1), (1, "1")]]
        wrong += [[(0, 1), (True, 1)], [(0, 1), ("1", 1)], [(0, 1), (1,)], [(0, 1), (1, 1, 1)], [(0, 1), 1], [0, 1, 1, 1]]
        wrong += [{0: 1}, {0: 1, 1: 8}, {0: 1, True: 1}, {0: 1, "1": 1}, {0: 1, 1: 1, 2: 1}, {0: 1, 1: None}, [(0, 1), {1: 1}]]
        wrong += [[(0, 1), (-1, 1)], [(0, 1), (10 ** 30, 1)], [([0], 1), (1, 1)]]
        for bad in wrong:
            self.assertEqual(raised(Net, 3, [], [], [2], bad), ("BadNet", "turns"))
            self.assertEqual(raised(with_turns, Net(3, [], [], [2], {0: 0, 1: 0}), bad), ("BadNet", "turns"))

    def test_equal(self):
        told = (3, ((0, 1),), (0,), (2,), ((0, 1), (1, 2)))
        net = Net(*told)
        self.assertIs(net == Net(3, [[1, 0]], [0], [2], {1: 2, 0: 1}), True)
        self.assertIs(net != Net(3, [[1, 0]], [0], [2], {1: 2, 0: 1}), False)
        others = [
            Net(4, [(0, 1)], [0], [2, 3], [(0, 1), (1, 2)]), Net(3, [(0, 2)], *told[2:]), Net(3, [], *told[2:]),
            Net(*told[:2], [1], *told[3:]), Net(*told[:2], [], *told[3:]), Net(*told[:3], [1], [(0, 1), (2, 2)]),
            Net(*told[:4], [(0, 1), (1, 3)]), Net(3, [(0, 1)], [0], [], [(0, 1), (1, 2), (2, 0)]),
        ]
        for other in [*others, *NO_NETS, told, str(net)]:
            self.assertIs(net == other, False)
            self.assertIs(other == net, False)
            self.assertIs(net != other, True)
        self.assertIs(Net(2, [], [0, 1], [0, 1], []) == Net(2, [], [1, 0], [0, 1], []), False)
        self.assertIs(Net(2, [], [0, 1], [0, 1], []) == Net(2, [], [0, 1], [1, 0], []), False)

    def test_methods_in_the_class_itself(self):
        for name in ("__init__", "__eq__", "__str__", "read"):
            self.assertIn(name, vars(Net))

    def test_what_was_passed_may_be_changed(self):
        pair, turn = [1, 0], [0, 3]
        strings, given, kept, turns = [pair], [1], [1], [turn]
        table = {0: 3}
        nets = [Net(2, strings, given, kept, turns), Net(2, strings, given, kept, table)]
        self.assertEqual((strings, given, kept, turns, table), ([[1, 0]], [1], [1], [[0, 3]], {0: 3}))
        again = with_turns(nets[0], table)
        pair[0], turn[1], table[0] = 5, 9, 8
        for passed in (strings, given, kept, turns):
            passed.clear()
        for net in [*nets, again]:
            self.assertEqual(net, Net(2, ((0, 1),), (1,), (1,), ((0, 3),)))


class TextTest(unittest.TestCase):
    def check(self, text):
        bad = bad_in_net(text)
        if bad is None:
            self.assertEqual(str(Net.read(text)), text)
        else:
            self.assertEqual(raised(Net.read, text), ("BadText", *bad), text)

    def test_written_and_read(self):
        steps = Steps(3)
        for things in (1, 2, 3, 5, 9, 30, 120):
            net = drawn(steps, things)
            rows = [["things", things], ["given", *net.given], ["kept", *net.kept]]
            rows += [["string", *pair] for pair in net.strings] + [["turn", *pair] for pair in net.turns]
            self.assertEqual(str(net), "\n".join(" ".join(map(str, row)) for row in rows))
            self.assertEqual(Net.read(text=str(net)), net)
            self.assertIsInstance(Net.read(str(net)), Net)

    def test_bent_texts(self):
        nets = [
            SMALL, Net(1, [], [], [], [(0, 3)]), Net(1, [], [0], [0], []), Net(2, [(0, 1)], [1, 0], [0, 1], []),
            Net(3, [(0, 1), (1, 2)], [], [2], [(0, 0), (1, 7)]), Net(4, [], [3, 1], [], {k: k for k in range(4)}),
        ]
        for net in nets:
            for bent in bent_texts(str(net)):
                self.check(bent)

    def test_two_places_bent(self):
        for text in ("things 2\ngiven 1\nkept 0\nstring 0 1\nturn 1 4", "things 3\ngiven\nkept 2\nstring 0 1\nstring 1 2"):
            for bent in bent_texts(text)[::11]:
                for more in bent_texts(bent)[::7]:
                    if len(more) < 500:
                        self.check(more)

    def test_told_places(self):
        head = "things 4\ngiven 2 0\nkept 3"
        told = {
            "": (0, 0), "things": (0, 1), "things 0": (0, 1), "things 121": (0, 1), "things 4 4": (0, 2), "things 4": (1, 0),
            "things 4\ngiven 2 0": (2, 0), "things 4\nkept 3": (1, 0), "things 4\ngiven ": (1, 1), "things 4\ngiven 4": (1, 1),
            "things 4\ngiven 2 2": (1, 2), "things 4\ngiven\nkept 1 0 1": (2, 3), head: (3, 0), head + "\n": (3, 0),
            head + "\nstring 1 0": (3, 2), head + "\nstring 1 1": (3, 2), head + "\nstring 1": (3, 2),
            head + "\nstring 1 4": (3, 2), head + "\nstring 4 1": (3, 1), head + "\nstring 0 1 2": (3, 3),
            head + "\nstring 1 2\nstring 0 3": (4, 1), head + "\nstring 1 3\nstring 1 2": (4, 2),
            head + "\nstring 1 3\nstring 1 3": (4, 2), head + "\nstring 1 3\nstring 2 1": (4, 2),
            head + "\nstring 0 1": (4, 0), head + "\nturn 1 0": (3, 1), head + "\nturn 0 8": (3, 2), head + "\nturn 0": (3, 2),
            head + "\nturn 0 0 0": (3, 3), head + "\nturn 0 0\nstring 0 1": (4, 0), head + "\nturn 0 0\nturn 0 0": (4, 1),
            head + "\nturn 0 0\nturn 1 0\nturn 2 0\nturn 3 0": (6, 0), head + "\nturn 0 0\nturn 1 0\nturn 2 0\n": (6, 0),
            head + "\nturn 0 0\nturn 1 0": (5, 0), head + "\nturn 00 0": (3, 1), head + "\nturn 0 +1": (3, 2),
            head + "\nstrings 0 1": (3, 0), "things 1\ngiven\nkept 0\nturn 0 0": (3, 0),
            "things 1\ngiven\nkept 0\nstring 0 0": (3, 2), "\n" + head: (0, 0), head + "\nturn 0 " + "1" * 5000: (3, 2),
            "things " + "9" * 61: (0, 1), "things -4": (0, 1), head + "\nstring -1 1": (3, 1), head + "\nstring \u0661 2": (3, 1),
        }
        for text, bad in told.items():
            self.assertEqual(raised(Net.read, text), ("BadText", *bad), text)

    def test_no_strings(self):
        for bad in [*odd_values(), 3, ["things 1"], SMALL]:
            if not isinstance(bad, str):
                self.assertEqual(raised(Net.read, bad), ("BadText", 0, 0))


class AskedTest(unittest.TestCase):
    def setUp(self):
        steps = Steps(8)
        self.nets = [SMALL] + [drawn(steps, things) for things in (1, 2, 3, 4, 5, 6, 12)]

    def test_neighbours(self):
        for net in self.nets:
            for thing in range(net.things):
                near = [other for other in range(net.things) if (min(thing, other), max(thing, other)) in net.strings]
                self.assertEqual(neighbours(net, thing), tuple(near))
                self.assertEqual(neighbours(thing=thing, net=net), tuple(near))

    def test_oddly_met(self):
        for net in self.nets[:-1]:
            for many in range(net.things + 1):
                for lot in permutations(range(net.things), many) if many < 4 else combinations(range(net.things), many):
                    met = [x for x in range(net.things) if len(set(neighbours(net, x)) & set(lot)) % 2]
                    self.assertEqual(oddly_met(net, lot), tuple(met))
            self.assertEqual(oddly_met(lot=[0], net=net), neighbours(net, 0))
            self.assertEqual(oddly_met(net, []), ())

    def test_turn_of(self):
        for net in self.nets:
            for thing in range(net.things):
                if thing in net.kept:
                    self.assertEqual(raised(turn_of, net, thing), ("Misfit", "thing"))
                else:
                    self.assertEqual(turn_of(net, thing), dict(net.turns)[thing])
                    self.assertEqual(turn_of(thing=thing, net=net), dict(net.turns)[thing])

    def test_with_turns(self):
        for net in self.nets:
            turns = [(thing, 7 - turn) for thing, turn in net.turns]
            expected = Net(net.things, net.strings, net.given, net.kept, turns)
            for told in (turns, turns[::-1], dict(turns), [list(pair) for pair in turns]):
                self.assertEqual(with_turns(net, told), expected)
            self.assertEqual(with_turns(turns=net.turns, net=net), net)

    def test_wrong_arguments(self):
        for bad in NO_NETS:
            for call, rest in ((neighbours, 0), (oddly_met, []), (turn_of, 0), (with_turns, []), (turn_of, None)):
                self.assertEqual(raised(call, bad, rest), ("BadNet", "net"))
        for bad in [*odd_values(), -1, 4, 10 ** 30]:
            self.assertEqual(raised(neighbours, SMALL, bad), ("BadNumber", "thing"))
            self.assertEqual(raised(turn_of, SMALL, bad), ("BadNumber", "thing"))
        for bad in [*odd_values(), 1, [4], [-1], [1, 1], [0, True], [0, "1"], {0: 1}, "01", [0, 1, 2, 3, 0], range(2)]:
            if bad not in ([], (), [1], (1,)):
                self.assertEqual(raised(oddly_met, SMALL, bad), ("BadNumber", "lot"))


def named(net, names):
    """The strings and turns of a net under other names, as sets."""
    strings = {tuple(sorted((names[low], names[high]))) for low, high in net.strings}
    return strings, {(names[thing], turn) for thing, turn in net.turns}


class TogetherTest(unittest.TestCase):
    def check_joined(self, one, other):
        rest = [thing for thing in range(other.things) if thing not in other.given]
        names = {**dict(zip(other.given, one.kept)), **{thing: one.things + at for at, thing in enumerate(rest)}}
        strings, turns = named(other, names)
        net = joined_nets(one, other)
        self.assertEqual(net.things, one.things + len(rest))
        self.assertEqual(net.strings, tuple(sorted(strings ^ set(one.strings))))
        self.assertEqual((net.given, net.kept), (one.given, tuple(names[thing] for thing in other.kept)))
        self.assertEqual(net.turns, tuple(sorted(turns | set(one.turns))))
        self.assertEqual(joined_nets(other=other, one=one), net)

    def test_joined(self):
        steps = Steps(40)
        nets = [SMALL] + [drawn(steps, 1 + steps.below(7)) for _ in range(40)]
        joined = 0
        for one in nets:
            for other in nets:
                if len(one.kept) == len(other.given):
                    self.check_joined(one, other)
                    joined += 1
                else:
                    self.assertEqual(raised(joined_nets, one, other), ("Misfit", "wires"))
        self.assertGreater(joined, 100)

    def test_a_string_in_both_goes_out(self):
        one = Net(3, [(0, 1), (1, 2)], [0], [2, 1], {0: 1})
        other = Net(3, [(0, 1), (1, 2)], [0, 1], [2], {0: 3, 1: 4})
        expected = Net(4, [(0, 1), (1, 3)], [0], [3], {0: 1, 1: 4, 2: 3})
        self.assertEqual(joined_nets(one, other), expected)

    def test_joined_too_many(self):
        turns = {thing: 0 for thing in range(119)}
        great = Net(119, [], [], [], turns)
        self.assertEqual(joined_nets(great, Net(1, [], [], [0], [])).things, 120)
        self.assertEqual(raised(joined_nets, great, Net(2, [], [], [0, 1], [])), ("TooMany", "things", 120))
        wide = Net(120, [], [], list(range(120)), [])
        turned = Net(120, [], list(range(119, -1, -1)), [5], {thing: 0 for thing in range(120) if thing != 5})
        self.assertEqual(joined_nets(wide, turned).kept, (114,))
        self.assertEqual(raised(joined_nets, wide, great), ("Misfit", "wires"))

    def test_aside(self):
        steps = Steps(41)
        nets = [SMALL] + [drawn(steps, 1 + steps.below(7)) for _ in range(12)]
        for one in nets:
            for other in nets:
                names = {thing: thing + one.things for thing in range(other.things)}
                strings, turns = named(other, names)
                net = aside_nets(one, other)
                self.assertEqual(net.things, one.things + other.things)
                self.assertEqual(net.strings, tuple(sorted(strings | set(one.strings))))
                self.assertEqual(net.given, one.given + tuple(names[thing] for thing in other.given))
                self.assertEqual(net.kept, one.kept + tuple(names[thing] for thing in other.kept))
                self.assertEqual(net.turns, tuple(sorted(turns | set(one.turns))))
                self.assertEqual(aside_nets(other=other, one=one), net)

    def test_aside_too_many(self):
        for first in (1, 60, 119, 120):
            for second in (1, 60, 61, 120):
                nets = [Net(many, [], [], list(range(many)), []) for many in (first, second)]
                expected = ("TooMany", "things", 120) if first + second > 120 else None
                self.assertEqual(raised(aside_nets, *nets), expected)

    def test_no_nets(self):
        for bad in NO_NETS:
            for call in (joined_nets, aside_nets):
                self.assertEqual(raised(call, bad, SMALL), ("BadNet", "one"))
                self.assertEqual(raised(call, SMALL, bad), ("BadNet", "other"))
                self.assertEqual(raised(call, bad, bad), ("BadNet", "one"))

    def test_what_is_passed_stays(self):
        one, other = Net.read(str(SMALL)), Net.read(str(SMALL))
        joined_nets(one, other), aside_nets(one, other), with_turns(one, {0: 0, 1: 0})
        self.assertEqual((one, other), (SMALL, SMALL))


if __name__ == "__main__":
    unittest.main()
