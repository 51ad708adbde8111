"""The net of a program, and its made lots."""

from lookmade.errors import TooMany
from lookmade.lots import Lots
from lookmade.nets import MOST, Net
from lookmade.programs import basic_deeds, want_program
from lookmade.waits import ruling, waited_for, waves_of


def made_deeds(program):
    """Its basic deeds, and two mixes more of each wire that has turns gathered behind them."""
    deeds = basic_deeds(program)
    gathered = [0 for _ in range(program.wires)]
    for deed in deeds:
        if deed[0] == "turn":
            gathered[deed[1]] += deed[2]
        if deed[0] == "mix":
            gathered[deed[1]] = 0
    for wire, turns in enumerate(gathered):
        if turns % 8 != 0:
            deeds.extend([("mix", wire), ("mix", wire)])
    return deeds


class Making:
    """A net while it is made, deed by deed."""

    def __init__(self, wires):
        self.fronts = list(range(wires))
        self.gathered = [0 for _ in range(wires)]
        self.strings = {}
        self.turns = []
        self.mixed_to = []

    def do(self, deed):
        """Makes what a turn, a mix or a sign asks for."""
        if deed[0] == "turn":
            self.gathered[deed[1]] += deed[2]
        elif deed[0] == "mix":
            self.mix(deed[1])
        else:
            self.sign(self.fronts[deed[1]], self.fronts[deed[2]])

    def mix(self, wire):
        """Lets a new thing come behind the front of a wire."""
        front = self.fronts[wire]
        fresh = len(self.fronts) + len(self.turns)
        self.strings[(front, fresh)] = True
        self.turns.append((front, self.gathered[wire] % 8))
        self.mixed_to.append((front, (fresh,)))
        self.fronts[wire] = fresh
        self.gathered[wire] = 0

    def sign(self, one, other):
        """Lets a string between two fronts come, or go if it is there."""
        string = (min(one, other), max(one, other))
        if string in self.strings:
            del self.strings[string]
        else:
            self.strings[string] = True


def making_of(program):
    """All that is made for a program: TooMany before anything is, if it is too much."""
    deeds = made_deeds(program)
    things = program.wires + len([deed for deed in deeds if deed[0] == "mix"])
    if things > MOST:
        raise TooMany("things", MOST)
    making = Making(program.wires)
    for deed in deeds:
        making.do(deed)
    return making


def made_net(making):
    """The net that was made."""
    wires = len(making.fronts)
    things = wires + len(making.turns)
    return Net(things, list(making.strings), list(range(wires)), making.fronts, making.turns)


def net_of(program):
    """The net of a program."""
    want_program(program, "program")
    return made_net(making_of(program))


def lots_for(program):
    """The Lots of the net of a program: the lot of each thing is what came when it was mixed."""
    want_program(program, "program")
    making = making_of(program)
    net = made_net(making)
    lots = sorted(making.mixed_to)
    return Lots(waves_of(net, waited_for(ruling(net, lots))), lots)
