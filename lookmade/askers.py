"""Askers: each thing and each turn hidden by a secret, while a stranger does all the looking."""

from lookmade.check_lots import want_lots
from lookmade.checks import is_bit, is_list, is_turn
from lookmade.errors import BadSecrets, Misfit, Twice
from lookmade.made import net_of
from lookmade.masks import mask_of
from lookmade.nets import Net, want_net, want_thing
from lookmade.programs import Program, want_program, want_room
from lookmade.waits import ruling, turn_by, waited_for
from lookmade.wanted import want_bit


def asked_net(program):
    """The net of the program with a mix more of each wire, of which nothing is given."""
    want_program(program, "program")
    mixes = tuple([("mix", wire) for wire in range(program.wires)])
    want_room(len(program.deeds) + len(mixes))
    net = net_of(Program(program.wires, program.deeds + mixes))
    return Net(net.things, net.strings, (), net.kept, net.turns)


def reading(net, lots):
    """As ruling, but that a kept thing, which is read by 0 or 4, is exchanged by none."""
    return [((), rule[1]) if thing in net.kept else rule for thing, rule in enumerate(ruling(net, lots))]


def asking_turns(net):
    """For each thing, the kept ones too, the turn by which it is looked at if all it waits for fell 0."""
    turns = dict(net.turns)
    return [turns.get(thing, 0) for thing in range(net.things)]


def are_secrets(value, many):
    """Whether it is a list of so many pairs of a turn and a bit."""
    if not is_list(value) or len(value) != many or not all([is_list(pair) and len(pair) == 2 for pair in value]):
        return False
    return all([is_turn(turn) and is_bit(bit) for turn, bit in value])


class Asker:
    """Tells turns for the things of a net, hears how they fell, and reads the kept ones."""

    def __init__(self, net, paper, secrets):
        want_net(net, "net")
        want_lots(paper, "paper", net)
        if not are_secrets(secrets, net.things):
            raise BadSecrets("secrets")
        if len(net.given) > 0:
            raise Misfit("given")
        self.net = net
        self.sent = tuple([turn for turn, _ in secrets])
        self.book = ()
        self._hidden = tuple([bit for _, bit in secrets])
        self._turns = asking_turns(net)
        self._rules = reading(net, paper.lots)
        self._waiting = waited_for(self._rules)
        # The true falls.
        self._falls = {}

    def ready(self):
        """The things that were not heard and wait for none that was not."""
        done = mask_of(self._falls)
        return tuple([
            thing
            for thing, waiting in enumerate(self._waiting)
            if thing not in self._falls and waiting & ~done == 0
        ])

    def asks(self, thing):
        """The turn that is told for a thing."""
        want_thing(thing, "thing", self.net)
        return self._told(thing)

    def hears(self, thing, fall):
        """Hears how a thing fell that was looked at by the turn that is told for it."""
        want_thing(thing, "thing", self.net)
        want_bit(fall, "fall")
        told = self._told(thing)
        self._falls[thing] = fall ^ self._hidden[thing]
        self.book = (*self.book, (thing, told, fall))

    def bits(self):
        """What is read of the kept things, in the order in which they are kept."""
        if not all([thing in self._falls for thing in self.net.kept]):
            raise Misfit("bits")
        return tuple([self._falls[thing] for thing in self.net.kept])

    def _told(self, thing):
        """The turn that is told for a thing: Twice if it was heard, Misfit if it is not ready."""
        if thing in self._falls:
            raise Twice(thing)
        if thing not in self.ready():
            raise Misfit("thing")
        now = turn_by(self._turns[thing], self._rules[thing], self._falls)
        return (now - self.sent[thing] + 4 * self._hidden[thing]) % 8
