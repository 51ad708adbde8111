"""The whole program: whatever falls, in whatever let order, by whichever hands, lesser or not, there is one end."""

import unittest

from helpers import Steps, raised
from lookmade.amounts import length_of
from lookmade.askers import Asker, asked_net
from lookmade.bricks import columns_of, wall_of
from lookmade.check_lesser import shows_lesser
from lookmade.check_lots import shows_fewest, shows_lots
from lookmade.houses import House, rounds, waves
from lookmade.lesser import lesser, odd_in
from lookmade.lots import fewest, lots_of
from lookmade.made import lots_for, net_of
from lookmade.meanings import meaning, readings
from lookmade.nets import Net
from lookmade.players import Player
from lookmade.programs import Program, odd_turns
from lookmade.runs import end_of
from lookmade.scripts import played
from lookmade.spreads import even, of_bits
from lookmade.strangers import Stranger
from lookmade.waits import first_order, is_let
from lookmade.walls import wall_lots
from test_made import drawn_program
from test_strangers import asked, product_of


def drawn_programs(start, many, most, wires=(1, 2, 3)):
    steps = Steps(start)
    for at in range(many):
        yield steps, drawn_program(steps, wires[at % len(wires)], steps.below(most + 1))


def drawn_order(steps, net, paper):
    """An order that is let, and falls, as a player hears them."""
    player, order = Player(net, paper, even(len(net.given))), []
    while player.ready():
        order.append(player.ready()[steps.below(len(player.ready()))])
        player.look(order[-1], steps.below(2))
    return tuple(order), [fall for _, fall in player.heard]


def house_end(steps, net, paper, spread, hands):
    """The end of a house whose hands are given, lose and tell as drawn."""
    house = House(net, paper, spread, hands)
    while not house.done:
        hand = steps.below(hands)
        house.give(hand)
        if steps.below(6) == 0:
            house.lost(hand)
        elif house.held[hand] is not None and steps.below(3):
            house.hears(house.held[hand], steps.below(2))
    assert is_let(net, paper, house.order)
    return house.end()


class OneEndTest(unittest.TestCase):
    def check(self, steps, net, paper, spread, end):
        """All ways to look at a net have this end."""
        self.assertIs(shows_lots(net, paper), True)
        for _ in range(3):
            order, falls = drawn_order(steps, net, paper)
            self.assertEqual(end_of(net, paper, spread, order, falls), end)
        order = first_order(net, paper)
        for falls in ([0] * len(order), [1] * len(order)):
            self.assertEqual(end_of(net, paper, spread, order, falls), end)
        for hands in (1, 2, 8):
            self.assertEqual(house_end(steps, net, paper, spread, hands), end)
            order = sum(rounds(net, paper, hands), ())
            self.assertEqual(end_of(net, paper, spread, order, [steps.below(2) for _ in order]), end)
        order = sum(waves(net, paper), ())
        self.assertEqual(end_of(net, paper, spread, order, [steps.below(2) for _ in order]), end)

    def test_nets_and_lesser_nets(self):
        for steps, program in drawn_programs(181, 45, 4):
            spread = of_bits([steps.below(2) for _ in range(program.wires)]) if steps.below(2) else steps.spread(program.wires, 3)
            end = meaning(program, spread)
            net = net_of(program)
            self.check(steps, net, lots_for(program), spread, end)
            self.check(steps, net, lots_of(net), spread, end)
            less = lesser(net)
            self.assertIs(shows_lesser(net, less), True)
            self.check(steps, less.net, lots_of(less.net), spread, end)
            self.assertIs(shows_fewest(less.net, fewest(less.net)), True)

    def test_odd_turns(self):
        # Turns of one wire with no mix between are gathered, so there are at most as many odd ones as in the program.
        for _, program in drawn_programs(182, 30, 5):
            net = net_of(program)
            self.assertLessEqual(odd_in(net), odd_turns(program))
            self.assertEqual(odd_in(lesser(net).net), odd_in(net))

    def test_walls(self):
        done = 0
        for steps, program in drawn_programs(183, 30, 2, (2, 3)):
            columns = max(columns_of(program), default=0) + 1
            if columns > {2: 14, 3: 9}[program.wires]:
                continue
            spread = steps.spread(program.wires, 2)
            end = meaning(program, spread)
            net, paper = wall_of(program, columns), wall_lots(program.wires, columns)
            order, falls = drawn_order(steps, net, paper)
            self.assertEqual(end_of(net, paper, spread, order, falls), end)
            self.assertEqual(house_end(steps, net, paper, spread, 3), end)
            less = lesser(net).net
            order, falls = drawn_order(steps, less, lots_of(less))
            self.assertEqual(end_of(less, lots_of(less), spread, order, falls), end)
            done += 1
        self.assertGreater(done, 10)

    def test_scripts(self):
        for steps, program in drawn_programs(184, 30, 5):
            bits = [steps.below(2) for _ in range(program.wires)]
            net = net_of(program)
            wanted = " / ".join(" ".join(map(str, (at, *length))) for at, length in readings(program, of_bits(bits)))
            told = [" ".join(map(str, deed)) for deed in program.deeds] + [" ".join(map(str, ["net", *bits]))]
            for more, one in (([], net), (["lesser"], lesser(net).net)):
                order, falls = drawn_order(steps, one, lots_for(program) if one == net else lots_of(one))
                looks = [f"look {thing} {fall}" for thing, fall in zip(order, falls)]
                self.assertEqual(played(program.wires, [*told, *more, *looks, "end"])[-1], wanted)


class StrangerTest(unittest.TestCase):
    def test_answers(self):
        done = 0
        for steps, program in drawn_programs(185, 45, 2):
            net = asked_net(program)
            if net.things > 12:
                continue
            self.check(steps, program, net)
            less = lesser(net).net
            self.check(steps, program, less)
            done += 1
        self.assertGreater(done, 15)

    def check(self, steps, program, net):
        """Each row of bits is read with the share that the program gives it behind even wires."""
        told = []
        for number, amount in enumerate(meaning(program, even(program.wires))):
            read = tuple(number >> wire & 1 for wire in range(program.wires))
            secrets = [(steps.below(8), steps.below(2)) for _ in range(net.things)]
            told.append((asked(steps, net, lots_of(net), secrets, read), length_of(amount)))
        whole = [tuple(map(sum, zip(*lengths))) for lengths in zip(*told)]
        for mine, theirs in told:
            self.assertEqual(product_of(mine, whole[1]), product_of(theirs, whole[0]))

    def test_a_sure_answer(self):
        # Two mixes do nothing but for the even begin: behind a mix each wire has 0, behind a not 1.
        program = Program(2, [("mix", 0), ("mix", 1), ("not", 1)])
        net = lesser(asked_net(program)).net
        paper = lots_of(net)
        steps = Steps(186)
        for _ in range(12):
            secrets = [(steps.below(8), steps.below(2)) for _ in range(net.things)]
            asker, stranger = Asker(net, paper, secrets), Stranger(net.things, net.strings, [turn for turn, _ in secrets])
            while asker.ready():
                thing, fall = asker.ready()[0], steps.below(2)
                if raised(stranger.looks, thing, asker.asks(thing), fall):
                    fall = 1 - fall
                    stranger.looks(thing, asker.asks(thing), fall)
                asker.hears(thing, fall)
            self.assertEqual(asker.bits(), (0, 1))

    def test_one_share_for_all_nets(self):
        # What is left of two nets of one shape has the same lengths on the whole: ways tell just as much of both.
        net = asked_net(Program(1, [("turn", 0, 1), ("mix", 0)]))
        other = Net(net.things, net.strings, net.given, net.kept, [(thing, 5) for thing, _ in net.turns])
        self.assertEqual(lots_of(net), lots_of(other))


if __name__ == "__main__":
    unittest.main()
