"""Lesser nets: what can go before anything is looked at, so that all ends stay alike."""

from lookmade.errors import Misfit
from lookmade.nets import want_net, want_thing
from lookmade.papers import Paper, fixed
from lookmade.tangles import Tangle


class Lesser(Paper):
    """The steps by which a net is lessened, and the net behind them."""

    def __init__(self, steps, net):
        Paper.__init__(self, "lesser", steps, net)
        self.steps = fixed(steps)
        self.net = fixed(net)


def net_behind(net, step, part):
    """The net behind a step: Misfit if it cannot be done."""
    tangle = Tangle(net)
    if not tangle.lets(step):
        raise Misfit(part)
    tangle.do(step)
    return tangle.as_net()


def may_quarter(net, thing):
    """Whether the thing can go by a quarter."""
    want_net(net, "net")
    want_thing(thing, "thing", net)
    return Tangle(net).lets(("quarter", thing))


def may_pair(net, one, other):
    """Whether the two can go as a pair."""
    want_net(net, "net")
    want_thing(one, "one", net)
    want_thing(other, "other", net)
    return Tangle(net).lets(("pair", one, other))


def quarter(net, thing):
    """The net behind the thing, which goes by a quarter."""
    want_net(net, "net")
    want_thing(thing, "thing", net)
    return net_behind(net, ("quarter", thing), "thing")


def pair(net, one, other):
    """The net behind the two, which go as a pair."""
    want_net(net, "net")
    want_thing(one, "one", net)
    want_thing(other, "other", net)
    return net_behind(net, ("pair", one, other), "pair")


def lesser(net):
    """The Lesser of the net, lessened until nothing can go."""
    want_net(net, "net")
    tangle = Tangle(net)
    steps = []
    step = tangle.next_step()
    while step is not None:
        tangle.do(step)
        steps.append(step)
        step = tangle.next_step()
    return Lesser(steps, tangle.as_net())


def odd_in(net):
    """How many things are looked at by an odd turn."""
    want_net(net, "net")
    return len([thing for thing, turn in net.turns if turn % 2 == 1])
