"""Asked nets, and askers: what is sent, ready, told, heard and read, against own waiting and the document's words."""

import unittest
from itertools import product

from helpers import Oddity, Steps, as_lists, odd_values, raised
from lookmade.askers import Asker, asked_net
from lookmade.check_lots import shows_lots
from lookmade.lots import Fewest, Lots, Stuck, lots_of
from lookmade.made import lots_for
from lookmade.nets import Net, with_turns
from lookmade.papers import Paper
from lookmade.programs import Program
from test_made import WORDS, drawn_program, long_net
from trials import asked_orders, read_behind, told_turn, ungiven

PAIR = Net(2, [(0, 1)], [], [1], [(0, 1)])
PAPER = Lots([[0]], [(0, [1])])
PATH = Net(4, [(0, 1), (1, 2), (2, 3)], [], [3, 2], {0: 1, 1: 3})
STEPS = Lots([[0], [1]], [(0, [1]), (1, [2])])
SECRETS = [(turn, bit) for turn in range(8) for bit in range(2)]


def drawn_secrets(steps, many):
    return [(steps.below(8), steps.below(2)) for _ in range(many)]


def state(asker):
    return (asker.net, asker.sent, asker.book, asker.ready())


class AskedNetTest(unittest.TestCase):
    def check(self, program):
        longer = Program(program.wires, [*program.deeds, *[("mix", wire) for wire in range(program.wires)]])
        things, strings, kept, looked, _ = long_net(longer)
        if things > 120:
            self.assertEqual(raised(asked_net, program), ("TooMany", "things", 120))
            return
        net = asked_net(program)
        self.assertEqual(net, Net(things, sorted(strings), [], kept, looked))
        self.assertIs(shows_lots(net, lots_for(longer)), True)
        self.assertEqual(lots_of(net).word, "lots")

    def test_drawn_programs(self):
        steps = Steps(121)
        for wires in range(1, 9):
            for many in (0, 1, 3, 8, 15):
                self.check(drawn_program(steps, wires, many))
                self.check(drawn_program(steps, wires, 3 * many, ("turn", "mix", "sign", "sign")))

    def test_each_word(self):
        for word, many in WORDS.items():
            deed = (word, *range(many), *([5] if word == "turn" else []))
            for wires in range(many, 9):
                self.check(Program(wires, [deed]))
                self.check(Program(wires, [deed, ("mix", many - 1), deed, ("turn", 0, 3)]))

    def test_no_deeds(self):
        for wires in range(1, 9):
            strings = [(wire, wires + wire) for wire in range(wires)]
            kept = list(range(wires, 2 * wires))
            net = Net(2 * wires, strings, [], kept, dict.fromkeys(range(wires), 0))
            self.assertEqual(asked_net(Program(wires, [])), net)

    def test_turns_behind_the_last_mix(self):
        # What is gathered is looked at before the last mix, so no two mixes more come.
        self.assertEqual(asked_net(Program(1, [("turn", 0, 5)])), Net(2, [(0, 1)], [], [1], [(0, 5)]))

    def test_too_many_deeds(self):
        for wires in range(1, 9):
            fine = [("turn", 0, 1)] * (200 - wires)
            self.assertEqual(asked_net(Program(wires, fine)).things, 2 * wires)
            self.assertEqual(raised(asked_net, Program(wires, [*fine, ("turn", 0, 1)])), ("TooMany", "deeds", 200))
            self.assertEqual(raised(asked_net, Program(wires, [("mix", 0)] * 200)), ("TooMany", "deeds", 200))

    def test_too_many_things(self):
        for wires in range(1, 9):
            fine = [("mix", 0)] * (120 - 2 * wires)
            self.assertEqual(asked_net(Program(wires, fine)).things, 120)
            self.assertEqual(raised(asked_net, Program(wires, [*fine, ("mix", 0)])), ("TooMany", "things", 120))

    def test_wrong_program(self):
        for value in (*odd_values(), PAIR, [("mix", 0)], "wires 1"):
            self.assertEqual(raised(asked_net, value), ("BadProgram", "program"))
        self.assertEqual(asked_net(program=Program(1, [])), Net(2, [(0, 1)], [], [1], [(0, 0)]))


class AskerTest(unittest.TestCase):
    def run_through(self, net, paper, secrets, order, falls):
        """Lets things be heard in this order, and asks for all that is told behind each."""
        lots, truth, book = dict(paper.lots), {}, []
        asker = Asker(net, paper, secrets)
        for thing, fall in zip(order, falls):
            ready = tuple(one for one in range(net.things)
                          if one not in truth and set(sum(read_behind(net, lots, one), ())) <= set(truth))
            self.assertEqual(state(asker), (net, tuple(turn for turn, _ in secrets), tuple(book), ready))
            for one in range(net.things):
                if one in ready:
                    self.assertEqual(asker.asks(one), told_turn(net, lots, secrets, one, truth))
                else:
                    told = ("Twice", one) if one in truth else ("Misfit", "thing")
                    self.assertEqual(raised(asker.asks, one), told)
                    self.assertEqual(raised(asker.hears, one, 0), told)
            unread = [one for one in net.kept if one not in truth]
            self.assertEqual(raised(asker.bits), ("Misfit", "bits") if unread else None)
            book.append((thing, told_turn(net, lots, secrets, thing, truth), fall))
            self.assertIsNone(asker.hears(thing, fall))
            truth[thing] = (fall + secrets[thing][1]) % 2
        self.assertEqual(state(asker), (net, tuple(turn for turn, _ in secrets), tuple(book), ()))
        self.assertEqual(asker.bits(), tuple(truth[thing] for thing in net.kept))

    def test_all_orders(self):
        steps = Steps(122)
        many = 0
        for net, paper in ungiven(123, 40, 4):
            for order in asked_orders(net, dict(paper.lots)):
                self.run_through(net, paper, drawn_secrets(steps, net.things), order, [steps.below(2) for _ in order])
                many += 1
        self.assertGreater(many, 200)

    def test_drawn_orders(self):
        steps = Steps(124)
        for net, paper in ungiven(125, 40, 7):
            orders = asked_orders(net, dict(paper.lots)) if net.things <= 6 else [asked_orders_first(net, dict(paper.lots), steps)]
            for _ in range(3):
                order = orders[steps.below(len(orders))]
                self.run_through(net, paper, drawn_secrets(steps, net.things), order, [steps.below(2) for _ in order])

    def test_all_secrets(self):
        for turn in range(8):
            net = with_turns(PAIR, [(0, turn)])
            for secrets in product(SECRETS, repeat=2):
                for order in ((0, 1), (1, 0)):
                    for falls in ((0, 0), (1, 0), (0, 1), (1, 1)):
                        asker = Asker(net, PAPER, secrets)
                        self.assertEqual(asker.sent, (secrets[0][0], secrets[1][0]))
                        for thing, fall in zip(order, falls):
                            asker.hears(thing, fall)
                        told = [(turn - secrets[0][0] + 4 * secrets[0][1]) % 8, (0 - secrets[1][0] + 4 * secrets[1][1]) % 8]
                        self.assertEqual(asker.book, tuple((thing, told[thing], fall) for thing, fall in zip(order, falls)))
                        self.assertEqual(asker.bits(), (falls[order.index(1)] ^ secrets[1][1],))

    def test_secrets_of_one_thing(self):
        for secret in SECRETS:
            for fall in (0, 1):
                # A lone kept thing is read by 0, a lone looked thing has no lot.
                asker = Asker(Net(1, [], [], [0], []), Lots([], []), [secret])
                self.assertEqual((asker.sent, asker.ready(), asker.asks(0)), ((secret[0],), (0,), (4 * secret[1] - secret[0]) % 8))
                asker.hears(0, fall)
                self.assertEqual((asker.bits(), asker.book), ((fall ^ secret[1],), ((0, (4 * secret[1] - secret[0]) % 8, fall),)))

    def test_kept_things_are_read_early(self):
        # Thing 2 is exchanged by 1 and signed by 0; thing 3 is signed by 1.
        asker = Asker(PATH, STEPS, [(0, 0)] * 4)
        self.assertEqual(asker.ready(), (0,))
        asker.hears(0, 1)
        self.assertEqual((asker.ready(), asker.asks(2), asker.asks(1)), ((1, 2), 4, 5))
        asker.hears(2, 1)
        self.assertEqual(raised(asker.bits), ("Misfit", "bits"))
        self.assertEqual(raised(asker.asks, 3), ("Misfit", "thing"))
        asker.hears(1, 1)
        self.assertEqual((asker.ready(), asker.asks(3)), ((3,), 4))
        asker.hears(3, 0)
        self.assertEqual(asker.bits(), (0, 1))
        self.assertEqual(asker.book, ((0, 1, 1), (2, 4, 1), (1, 5, 1), (3, 4, 0)))

    def test_bits_as_soon_as_kept_things_are_heard(self):
        asker = Asker(PAIR, PAPER, [(3, 1), (5, 1)])
        asker.hears(1, 1)
        self.assertEqual((asker.bits(), asker.ready()), ((0,), (0,)))
        self.assertIsInstance(asker.bits(), tuple)

    def test_nothing_kept(self):
        # Nothing is kept and something is looked at: no such net has lots. Nothing looked at: all is kept.
        net = Net(2, [(0, 1)], [], [1, 0], [])
        asker = Asker(net, Lots([], []), [(1, 0), (2, 1)])
        self.assertEqual((asker.ready(), asker.asks(0), asker.asks(1)), ((0, 1), 7, 2))
        asker.hears(0, 1)
        self.assertEqual(raised(asker.bits), ("Misfit", "bits"))
        asker.hears(1, 1)
        self.assertEqual((asker.bits(), asker.book), ((0, 1), ((0, 7, 1), (1, 2, 1))))

    def test_many_things(self):
        net = asked_net(Program(4, [("mix", 0), ("sign", 0, 1), ("turn", 2, 3), ("under", 2, 3), ("mix", 1)] * 12))
        paper = lots_of(net)
        steps = Steps(126)
        secrets = drawn_secrets(steps, net.things)
        asker = Asker(net, paper, secrets)
        truth = {}
        while asker.ready():
            ready = asker.ready()
            thing, fall = ready[steps.below(len(ready))], steps.below(2)
            told = asker.asks(thing)
            asker.hears(thing, fall)
            self.assertEqual(asker.book[-1], (thing, told, fall))
            truth[thing] = fall ^ secrets[thing][1]
        self.assertEqual(asker.bits(), tuple(truth[thing] for thing in net.kept))
        self.assertEqual(len(asker.book), net.things)

    def test_lists_and_what_was_passed(self):
        secrets = [[3, 1], [5, 0]]
        asker, other = Asker(PAIR, PAPER, secrets), Asker(PAIR, PAPER, ((3, 1), (5, 0)))
        secrets[0][0] = 6
        secrets[1][1] = 1
        secrets.clear()
        for one in (asker, other):
            one.hears(0, 1)
            one.hears(1, 1)
        self.assertEqual((state(asker), asker.bits()), (state(other), other.bits()))
        self.assertEqual(as_lists(asker.book), [[0, 2, 1], [1, 3, 1]])

    def test_equal_only_to_itself(self):
        asker = Asker(PAIR, PAPER, [(3, 1), (5, 0)])
        self.assertEqual(asker, asker)
        self.assertNotEqual(asker, None)


def asked_orders_first(net, lots, steps):
    """One order in which an asker may hear all things, drawn."""
    order = []
    while len(order) < net.things:
        ready = [thing for thing in range(net.things) if thing not in order
                 and set(sum(read_behind(net, lots, thing), ())) <= set(order)]
        order.append(ready[steps.below(len(ready))])
    return tuple(order)


class ErrorsTest(unittest.TestCase):
    def test_made(self):
        for value in (*odd_values(), str(PAIR)):
            self.assertEqual(raised(Asker, value, None, None), ("BadNet", "net"))
        for value in (*odd_values(), Paper("lots", *PAPER.parts), Stuck(*PAPER.parts), Fewest(*PAPER.parts), Lots([], []), STEPS,
                      Lots([[0]], [(0, [True])]), Lots([[False]], [(0, [1])])):
            self.assertEqual(raised(Asker, PAIR, value, None), ("BadLots", "paper"))
        right = [(3, 1), (5, 0)]
        for value in (*odd_values(), right[:1], [*right, (0, 0)], [(8, 1), (5, 0)], [(3, 2), (5, 0)], [(-1, 1), (5, 0)],
                      [(3, True), (5, 0)], [(True, 1), (5, 0)], [(3, 1), (5,)], [(3, 1, 0), (5, 0)], [3, 5], dict(right),
                      [(3, 1), None], [(3, 1), "50"], [(1.0, 1), (5, 0)], {0: (3, 1), 1: (5, 0)}, [(0, 3, 1), (1, 5, 0)],
                      [right], (right, right[0])):
            self.assertEqual(raised(Asker, PAIR, PAPER, value), ("BadSecrets", "secrets"), value)
        self.assertIsNone(raised(Asker, secrets=tuple(right), net=PAIR, paper=PAPER))

    def test_given(self):
        net = Net(3, [(0, 1), (1, 2)], [0], [2], {0: 1, 1: 3})
        for value in (*odd_values(), [(0, 0)] * 2):
            self.assertEqual(raised(Asker, net, STEPS, value), ("BadSecrets", "secrets"))
        self.assertEqual(raised(Asker, net, STEPS, [(0, 0)] * 3), ("Misfit", "given"))
        kept = Net(1, [], [0], [0], [])
        self.assertEqual(raised(Asker, kept, Lots([], []), [(0, 0)]), ("Misfit", "given"))

    def test_asks_and_hears(self):
        asker = Asker(PATH, STEPS, [(0, 0)] * 4)
        before = state(asker)
        for value in (*odd_values(), -1, 4, 0.0, 10 ** 30, Oddity()):
            self.assertEqual(raised(asker.asks, value), ("BadNumber", "thing"))
            for fall in (0, 2, None):
                self.assertEqual(raised(asker.hears, value, fall), ("BadNumber", "thing"))
        for value in (*odd_values(), 2, -1, 0.0):
            for thing in range(4):
                self.assertEqual(raised(asker.hears, thing, value), ("BadNumber", "fall"))
        for thing in (1, 2, 3):
            self.assertEqual(raised(asker.asks, thing), ("Misfit", "thing"))
            self.assertEqual(raised(asker.hears, thing, 1), ("Misfit", "thing"))
        self.assertEqual(raised(asker.bits), ("Misfit", "bits"))
        self.assertEqual(state(asker), before)
        self.assertIsNone(asker.hears(fall=1, thing=0))
        before = state(asker)
        for value in (*odd_values(), 2, -1):
            self.assertEqual(raised(asker.hears, 0, value), ("BadNumber", "fall"))
        for fall in (0, 1):
            self.assertEqual(raised(asker.hears, 0, fall), ("Twice", 0))
        self.assertEqual(raised(asker.asks, thing=0), ("Twice", 0))
        self.assertEqual(state(asker), before)


if __name__ == "__main__":
    unittest.main()
