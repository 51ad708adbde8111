"""Strangers: what is left and how long it is behind each look, against sums over all bits; answers read through askers."""

import unittest
from itertools import combinations, permutations, product

from helpers import Oddity, Steps, as_lists, drawn_list, odd_values, raised
from lookmade.amounts import length_of, multiplied
from lookmade.askers import Asker, asked_net
from lookmade.lots import lots_of
from lookmade.meanings import meaning
from lookmade.programs import Program
from lookmade.spreads import even
from lookmade.strangers import Stranger
from test_askers import drawn_secrets
from test_made import drawn_program
from trials import add, all_bits, length, turned

ONE = (1, 0, 0, 0)


def left_behind(things, strings, sent, looks):
    """The spread of what is left behind looks, triples (thing, turn, fall), summed over the bits of what is gone."""
    gone = {thing: turn + 4 * fall for thing, turn, fall in looks}
    left = [thing for thing in range(things) if thing not in gone]
    found = []
    for bits in all_bits(left):
        amount = (0, 0, 0, 0)
        for more in all_bits(gone):
            whole = {**bits, **more}
            turn = sum(sent[thing] + gone.get(thing, 0) for thing in whole if whole[thing])
            turn += sum(4 for one, other in strings if whole[one] and whole[other])
            amount = add(amount, turned(ONE, turn))
        found.append(amount)
    return tuple(found)


def state(stranger):
    return (stranger.left, stranger.length)


class LooksTest(unittest.TestCase):
    def check(self, things, strings, sent, order, turns, falls):
        """Looks in this order; what never comes raises, and falls the other way then."""
        stranger, looks, never = Stranger(things, strings, sent), [], 0
        self.assertEqual(state(stranger), (tuple(range(things)), length(left_behind(things, strings, sent, []))))
        self.assertEqual(stranger.length, (2 ** things, 0))
        for thing, turn, fall in zip(order, turns, falls):
            for told in (fall, 1 - fall):
                spread = left_behind(things, strings, sent, [*looks, (thing, turn, told)])
                if any(any(amount) for amount in spread):
                    self.assertIsNone(stranger.looks(thing, turn, told))
                    looks.append((thing, turn, told))
                    break
                before = state(stranger)
                self.assertEqual(raised(stranger.looks, thing, turn, told), ("Misfit", "fall"))
                self.assertEqual(state(stranger), before)
                never += 1
            gone = {one for one, _, _ in looks}
            self.assertEqual(state(stranger), (tuple(one for one in range(things) if one not in gone), length(spread)))
            for one in gone:
                self.assertEqual(raised(stranger.looks, one, 0, 0), ("BadNumber", "thing"))
        return never

    def test_all_orders(self):
        steps = Steps(131)
        for things in (1, 2, 3):
            for strings in (drawn_list(steps, list(combinations(range(things), 2)), 6) for _ in range(3)):
                for order in permutations(range(things)):
                    for falls in product((0, 1), repeat=things):
                        sent, turns = [steps.below(8) for _ in order], [steps.below(8) for _ in order]
                        self.check(things, strings, sent, order, turns, falls)

    def test_drawn(self):
        steps = Steps(132)
        never = 0
        for at in range(60):
            things = steps.between(1, 6)
            strings = drawn_list(steps, list(combinations(range(things), 2)), steps.below(9))
            strings = [pair if steps.below(2) else pair[::-1] for pair in strings]
            even_turns = at % 2
            sent, turns = [[steps.below(8) >> even_turns << even_turns for _ in range(things)] for _ in range(2)]
            order = drawn_list(steps, range(things), 10)
            never += self.check(things, strings, sent, order, turns, [steps.below(2) for _ in order])
        self.assertGreater(never, 10)

    def test_some_left(self):
        stranger = Stranger(3, [(0, 1), (2, 1)], [1, 2, 3])
        stranger.looks(1, 6, 1)
        self.assertEqual(state(stranger), ((0, 2), length(left_behind(3, [(0, 1), (1, 2)], [1, 2, 3], [(1, 6, 1)]))))

    def test_a_fall_that_never_comes(self):
        for sent in range(8):
            for turn in range(8):
                for fall in (0, 1):
                    stranger = Stranger(1, [], [sent])
                    whole = (sent + turn + 4 * fall) % 8
                    if whole == 4:
                        self.assertEqual(raised(stranger.looks, 0, turn, fall), ("Misfit", "fall"))
                        self.assertEqual(state(stranger), ((0,), (2, 0)))
                        self.assertIsNone(stranger.looks(0, turn, 1 - fall))
                        self.assertEqual(state(stranger), ((), (4, 0)))
                    else:
                        self.assertIsNone(stranger.looks(0, turn, fall))
                        self.assertEqual(state(stranger), ((), length([add(ONE, turned(ONE, whole))])))

    def test_twelve_things(self):
        steps = Steps(133)
        for chance in (2, 9):
            strings = drawn_list(steps, list(combinations(range(12), 2)), chance)
            sent = [steps.below(8) for _ in range(12)]
            stranger = Stranger(12, strings, sent)
            self.assertEqual(state(stranger), (tuple(range(12)), (4096, 0)))
            looks = []
            for thing in drawn_list(steps, range(12), 10):
                turn, fall = steps.below(8), steps.below(2)
                if raised(stranger.looks, thing, turn, fall):
                    fall = 1 - fall
                    stranger.looks(thing, turn, fall)
                looks.append((thing, turn, fall))
                self.assertEqual(stranger.left, tuple(sorted(set(range(12)) - {thing for thing, _, _ in looks})))
                if len(looks) in (1, 6, 12):
                    self.assertEqual(stranger.length, length(left_behind(12, strings, sent, looks)))
            self.assertEqual(stranger.left, ())

    def test_what_was_passed_may_change(self):
        strings, sent = [[0, 1], [2, 1]], [1, 2, 3]
        stranger, other = Stranger(3, strings, sent), Stranger(3, ((1, 0), (1, 2)), (1, 2, 3))
        strings[0][0] = 2
        strings.clear()
        sent.clear()
        for one in (stranger, other):
            one.looks(1, 3, 1)
            one.looks(0, 2, 0)
        self.assertEqual(state(stranger), state(other))
        self.assertIsInstance(stranger.left, tuple)
        self.assertIsInstance(stranger.length, tuple)

    def test_equal_only_to_itself(self):
        stranger = Stranger(1, [], [0])
        self.assertEqual(stranger, stranger)
        self.assertNotEqual(stranger, None)


class ErrorsTest(unittest.TestCase):
    def test_made(self):
        for value in (*odd_values(), 0, 13, -1, 1.0, 10 ** 30):
            self.assertEqual(raised(Stranger, value, None, None), ("BadNumber", "things"))
        for value in (None, True, 0, "", "01", {}, {0: 1}, [0, 1], [(0, 0)], [(0, 3)], [(0, 1), (1, 0)], [(0, 1), (0, 1)],
                      [(0,)], [(0, 1, 2)], [(0, True)], [(0, 1.0)], [(-1, 0)], [None], [()], ((0, 1), 2), Oddity(), {(0, 1)}):
            self.assertEqual(raised(Stranger, 3, value, None), ("BadNet", "strings"), value)
        for value in (*odd_values(), [0, 0], [0] * 4, [0, 0, 8], [0, -1, 0], [0, True, 0], [0, 0, 1.0], [[0], [0], [0]],
                      [0, 0, None], {0: 0, 1: 0, 2: 0}, "000"):
            self.assertEqual(raised(Stranger, 3, [(0, 1)], value), ("BadSecrets", "sent"), value)
        self.assertIsNone(raised(Stranger, sent=(0, 7, 3), strings=[(0, 1)], things=3))
        self.assertEqual(Stranger(1, [], [0]).length, (2, 0))

    def test_looks(self):
        stranger = Stranger(3, [(0, 1)], [0, 0, 0])
        stranger.looks(1, 0, 0)
        before = state(stranger)
        for value in (*odd_values(), -1, 1, 3, 0.0, 10 ** 30, Oddity()):
            self.assertEqual(raised(stranger.looks, value, None, None), ("BadNumber", "thing"))
        for value in (*odd_values(), -1, 8, 0.0):
            self.assertEqual(raised(stranger.looks, 0, value, None), ("BadNumber", "turn"))
        for value in (*odd_values(), -1, 2, 0.0):
            self.assertEqual(raised(stranger.looks, 0, 0, value), ("BadNumber", "fall"))
            self.assertEqual(raised(stranger.looks, 2, 4, value), ("BadNumber", "fall"))
        self.assertEqual(raised(stranger.looks, 2, 4, 0), ("Misfit", "fall"))
        self.assertEqual(raised(stranger.looks, 2, 0, 1), ("Misfit", "fall"))
        self.assertEqual(state(stranger), before)
        self.assertIsNone(stranger.looks(fall=1, turn=1, thing=2))


def asked(steps, net, paper, secrets, read):
    """The stranger's length behind all looks, the looked things falling as drawn, the kept ones so that this is read."""
    asker, stranger = Asker(net, paper, secrets), Stranger(net.things, net.strings, [turn for turn, _ in secrets])
    while asker.ready():
        thing = asker.ready()[steps.below(len(asker.ready()))]
        if thing in net.kept:
            fall = read[net.kept.index(thing)] ^ secrets[thing][1]
        else:
            fall = steps.below(2)
        if raised(stranger.looks, thing, asker.asks(thing), fall):
            return (0, 0)
        asker.hears(thing, fall)
    assert asker.bits() == read
    return stranger.length


class AnswersTest(unittest.TestCase):
    def check(self, steps, program):
        """Each row of bits is read with the share that the program gives it, whatever is secret and whatever falls."""
        net = asked_net(program)
        paper = lots_of(net)
        meant = meaning(program, even(program.wires))
        told = []
        for number, amount in enumerate(meant):
            read = tuple(number >> wire & 1 for wire in range(program.wires))
            told.append((asked(steps, net, paper, drawn_secrets(steps, net.things), read), length_of(amount)))
        whole = [tuple(map(sum, zip(*lengths))) for lengths in zip(*told)]
        for mine, theirs in told:
            self.assertEqual(product_of(mine, whole[1]), product_of(theirs, whole[0]))
            self.assertEqual(mine == (0, 0), theirs == (0, 0))

    def test_drawn_programs(self):
        steps = Steps(134)
        for at in range(40):
            wires = 1 + at % 3
            program = drawn_program(steps, wires, steps.between(0, 4), ("turn", "mix", "sign"))
            if asked_net(program).things <= 9:
                self.check(steps, program)

    def test_not_and_under(self):
        steps = Steps(135)
        self.check(steps, Program(1, [("mix", 0), ("not", 0)]))
        self.check(steps, Program(2, [("turn", 0, 1), ("under", 0, 1), ("mix", 0), ("turn", 0, 3)]))
        self.check(steps, Program(2, [("mix", 0), ("mix", 1), ("under", 0, 1)]))


def product_of(one, other):
    """The product of two lengths: of pairs (p, q) that stand for p + q r."""
    return multiplied((one[0], one[1], 0, -one[1]), (other[0], other[1], 0, -other[1]))


if __name__ == "__main__":
    unittest.main()
