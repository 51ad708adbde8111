"""Whether papers of lesser nets are right, by doing their steps."""

from lookmade.check_lots import are_ascending
from lookmade.checks import is_list
from lookmade.lesser import Lesser
from lookmade.nets import Net, want_net
from lookmade.tangles import Tangle

# How many things stand behind the word of a step.
STEPS = {"quarter": 1, "pair": 2}


def is_lesser(value):
    """Whether it is a Lesser, made by calling just this class."""
    return isinstance(value, Lesser) and value.__class__.__name__ == "Lesser"


def is_step(value, things):
    """Whether it is a step, whether or not it can be done, in a net of so many things."""
    if not is_list(value) or len(value) == 0 or not isinstance(value[0], str) or value[0] not in STEPS:
        return False
    return len(value) == STEPS[value[0]] + 1 and are_ascending(value[1:], things)


def shows_lesser(net, value):
    """Whether it is a Lesser of steps that can be done, behind which nothing can go, and of the net behind them."""
    want_net(net, "net")
    if not is_lesser(value) or not is_list(value.steps):
        return False
    tangle = Tangle(net)
    for step in value.steps:
        if not is_step(step, len(tangle.near)) or not tangle.lets(step):
            return False
        tangle.do(step)
    return tangle.next_step() is None and isinstance(value.net, Net) and value.net == tangle.as_net()
