"""Nets of programs and their made lots: by hand, deed by deed, and by their ends."""

import unittest
from itertools import product

from helpers import Steps, odd_values, raised
from lookmade.check_lots import shows_lots
from lookmade.lots import Lots
from lookmade.made import lots_for, net_of
from lookmade.meanings import meaning
from lookmade.nets import Net, oddly_met
from lookmade.programs import Program, basic
from lookmade.runs import end_of
from lookmade.spreads import of_bits
from lookmade.waits import first_order

WORDS = {"turn": 1, "mix": 1, "sign": 2, "not": 1, "under": 2, "swap": 2, "both": 3}


def drawn_program(steps, wires, many, words=tuple(WORDS)):
    words = [word for word in words if WORDS[word] <= wires]
    deeds = []
    for _ in range(many):
        word = words[steps.below(len(words))]
        left = list(range(wires))
        told = [left.pop(steps.below(len(left))) for _ in range(WORDS[word])]
        deeds.append((word, *told, *([steps.between(1, 7)] if word == "turn" else [])))
    return Program(wires, deeds)


def led_back(deed):
    """The turns, mixes and signs of a deed, as the table of the document tells them."""
    table = {
        "not": "mix a, turn a 4, mix a",
        "under": "mix b, sign a b, mix b",
        "swap": "under a b, under b a, under a b",
        "both": "mix c, turn a 1, turn b 1, turn c 1, under a b, turn b 7, under b c, turn c 1, under a c, turn c 7, "
                "under b c, turn c 7, under a c, under a b, mix c",
    }
    if deed[0] not in table:
        return [deed]
    names = dict(zip("abc", deed[1:]))
    found = []
    for step in table[deed[0]].split(", "):
        word, *told = step.split(" ")
        found += led_back((word, *[names[item] if item in names else int(item) for item in told]))
    return found


def long_net(program):
    """The things, strings, kept things, turns and made lots, told once more from the words of the document."""
    front = {wire: wire for wire in range(program.wires)}
    turns = {wire: 0 for wire in front}
    strings, looked, lots = set(), {}, {}

    def mixed(wire):
        fresh = len(front) + len(looked)
        strings.add(frozenset((front[wire], fresh)))
        looked[front[wire]] = turns[wire]
        lots[front[wire]] = (fresh,)
        front[wire], turns[wire] = fresh, 0

    for deed in program.deeds:
        for word, *told in led_back(deed):
            if word == "turn":
                turns[told[0]] = (turns[told[0]] + told[1]) % 8
            elif word == "mix":
                mixed(told[0])
            else:
                strings ^= {frozenset(front[wire] for wire in told)}
    for wire in sorted(front):
        if turns[wire]:
            mixed(wire)
            mixed(wire)
    return len(front) + len(looked), {tuple(sorted(pair)) for pair in strings}, list(front.values()), looked, lots


def earliest(net, lots):
    """The earliest layer of each looked thing, by letting those before push the others on."""
    layers = dict.fromkeys(net.looked, 0)
    moved = True
    while moved:
        moved = False
        for thing in net.looked:
            for other in {*lots[thing], *oddly_met(net, lots[thing])} - {thing, *net.kept}:
                if layers[other] <= layers[thing]:
                    layers[other] = layers[thing] + 1
                    moved = True
    return tuple(tuple(thing for thing in net.looked if layers[thing] == at) for at in range(max(layers.values(), default=-1) + 1))


class MadeTest(unittest.TestCase):
    def check(self, program):
        things, strings, kept, looked, lots = long_net(program)
        if things > 120:
            self.assertEqual(raised(net_of, program), ("TooMany", "things", 120))
            self.assertEqual(raised(lots_for, program), ("TooMany", "things", 120))
            return
        net, paper = net_of(program), lots_for(program)
        self.assertEqual(net, Net(things, sorted(strings), list(range(program.wires)), kept, looked))
        self.assertEqual(paper.lots, tuple(sorted(lots.items())))
        self.assertEqual(paper.layers, earliest(net, lots))
        self.assertIs(shows_lots(net, paper), True)

    def test_drawn_programs(self):
        steps = Steps(71)
        for wires in range(1, 9):
            for many in (0, 1, 2, 5, 9, 14, 20):
                self.check(drawn_program(steps, wires, many))
                self.check(drawn_program(steps, wires, 3 * many, ("turn", "mix", "sign", "sign")))

    def test_each_word(self):
        for word, many in WORDS.items():
            deed = (word, *range(many), *([5] if word == "turn" else []))
            self.check(Program(max(many, 2), [deed]))
            self.check(Program(max(many, 2), [deed, deed]))
            self.check(Program(max(many, 2), [("mix", 0), deed, ("turn", many - 1, 3)]))

    def test_no_deeds(self):
        for wires in range(1, 9):
            net = net_of(Program(wires, []))
            self.assertEqual(net, Net(wires, [], list(range(wires)), list(range(wires)), []))
            self.assertEqual(lots_for(Program(wires, [])), Lots([], []))

    def test_gathered_turns(self):
        for turns, told in (([3, 5], None), ([1, 2, 7], 2), ([4, 4, 4], 4), ([7] * 8, None), ([6, 7], 5)):
            net = net_of(Program(1, [("turn", 0, turn) for turn in turns]))
            if told is None:
                self.assertEqual(net, Net(1, [], [0], [0], []))
            else:
                self.assertEqual(net, Net(3, [(0, 1), (1, 2)], [0], [2], [(0, told), (1, 0)]))
        net = net_of(Program(2, [("turn", 1, 3), ("sign", 0, 1), ("turn", 1, 6), ("mix", 1), ("turn", 1, 1), ("turn", 0, 2)]))
        # The turns of wire 1 are gathered over the sign; at the end wire 0 comes first: 3, 4, then 5, 6.
        self.assertEqual(net, Net(7, [(0, 1), (1, 2), (0, 3), (3, 4), (2, 5), (5, 6)], [0, 1], [4, 6],
                                  [(0, 2), (1, 1), (2, 1), (3, 0), (5, 0)]))

    def test_signs_come_and_go(self):
        sign = ("sign", 0, 1)
        for many in range(5):
            net = net_of(Program(2, [sign, ("sign", 1, 0)][:many % 2] + [sign] * (many - many % 2)))
            self.assertEqual(net.strings, ((0, 1),) if many % 2 else ())
        net = net_of(Program(2, [sign, ("mix", 0), ("sign", 1, 0), ("mix", 1), sign, ("sign", 1, 0)]))
        self.assertEqual(net.strings, ((0, 1), (0, 2), (1, 2), (1, 3)))

    def test_layers_by_hand(self):
        # The thing 1 comes when 0 is mixed, and is tied to 3, which is looked at later than 0 therefore.
        program = Program(2, [("mix", 0), ("sign", 0, 1), ("mix", 1), ("mix", 1), ("mix", 0)])
        net, paper = net_of(program), lots_for(program)
        self.assertEqual(net.strings, ((0, 2), (1, 2), (1, 3), (2, 5), (3, 4)))
        self.assertEqual(paper, Lots([[0], [1, 2], [3]], [(0, [2]), (1, [3]), (2, [5]), (3, [4])]))

    def test_programs_of_many_things(self):
        mix = ("mix", 0)
        self.check(Program(1, [mix] * 119))
        self.assertEqual(net_of(Program(1, [mix] * 119)).things, 120)
        self.assertEqual(raised(net_of, Program(1, [mix] * 120)), ("TooMany", "things", 120))
        self.assertEqual(net_of(Program(1, [mix] * 117 + [("turn", 0, 1)])).things, 120)
        self.assertEqual(raised(lots_for, Program(1, [mix] * 118 + [("turn", 0, 1)])), ("TooMany", "things", 120))
        self.assertEqual(net_of(Program(1, [mix] * 119 + [("turn", 0, 1), ("turn", 0, 7)])).things, 120)
        self.assertEqual(net_of(Program(8, [mix] * 112)).things, 120)
        self.assertEqual(raised(net_of, Program(8, [mix] * 113)), ("TooMany", "things", 120))
        self.assertEqual(raised(lots_for, Program(8, [mix] * 200)), ("TooMany", "things", 120))

    def test_many_basic_deeds(self):
        both = ("both", 0, 1, 2)
        program = Program(3, [both] * 8)
        self.assertEqual(raised(basic, program), ("TooMany", "deeds", 200))
        self.check(program)
        self.assertEqual(net_of(program).things, 3 + 8 * 14)
        wide = Program(3, [*[both] * 8, mix_of(0), mix_of(1)])
        self.check(wide)
        self.assertEqual(net_of(Program(3, [*[both] * 8, mix_of(0), mix_of(1), *[("turn", 2, 4)] * 189])).things, 119)
        self.check(Program(3, [both] * 9))
        self.check(Program(3, [("swap", 0, 2)] * 200))
        self.check(Program(8, [both] * 200))
        self.check(Program(4, [("sign", 0, 3)] * 99 + [("turn", 1, 7)] * 101))

    def test_ends_are_meanings(self):
        steps = Steps(72)
        runs = 0
        for wires in (1, 2, 3):
            for many in (0, 1, 2, 3, 4, 5, 1, 2, 3):
                program = drawn_program(steps, wires, many, ("turn", "mix", "sign", "not", "under"))
                net, paper = net_of(program), lots_for(program)
                if len(net.looked) > 9:
                    continue
                spread = of_bits([steps.below(2) for _ in range(wires)]) if many % 2 else steps.spread(wires, 2)
                told, order = meaning(program, spread), first_order(net, paper)
                for falls in product((0, 1), repeat=len(order)):
                    self.assertEqual(end_of(net, paper, spread, order, falls), told)
                    runs += 1
        self.assertGreater(runs, 300)

    def test_ends_of_greater_programs(self):
        steps = Steps(73)
        for wires in range(1, 6):
            program = drawn_program(steps, wires, 5)
            net, paper, spread = net_of(program), lots_for(program), of_bits([steps.below(2) for _ in range(wires)])
            order = first_order(net, paper)
            for _ in range(3):
                falls = [steps.below(2) for _ in order]
                self.assertEqual(end_of(net, paper, spread, order, falls), meaning(program, spread))

    def test_errors(self):
        for value in (*odd_values(), Net(1, [], [], [0], []), "wires 1", (1, [])):
            self.assertEqual(raised(net_of, value), ("BadProgram", "program"))
            self.assertEqual(raised(lots_for, value), ("BadProgram", "program"))
        self.assertEqual(net_of(program=Program(1, [])), Net(1, [], [0], [0], []))
        self.assertEqual(lots_for(program=Program(1, [])), Lots([], []))


def mix_of(wire):
    return ("mix", wire)


if __name__ == "__main__":
    unittest.main()
