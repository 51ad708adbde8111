"""Ways: all secrets by which an asker tells just these turns if just these falls are heard."""

from lookmade.askers import asking_turns, reading
from lookmade.check_lots import want_lots
from lookmade.checks import is_list, is_turn
from lookmade.errors import BadNumber, Misfit, TooMany
from lookmade.looks import want_falls
from lookmade.nets import want_net
from lookmade.waits import turn_by

MOST = 6


def way_of(told, falls, turns, rules, truth):
    """The secrets by which the true falls are these, truth being a list with the fall of each thing."""
    found = []
    for thing, true in enumerate(truth):
        bit = true ^ falls[thing]
        now = turn_by(turns[thing], rules[thing], truth)
        found.append(((now - told[thing] + 4 * bit) % 8, bit))
    return tuple(found)


def ways_to(net, paper, told, falls):
    """All secrets by which an Asker of the net tells these turns if these falls are heard, ascending."""
    want_net(net, "net")
    want_lots(paper, "paper", net)
    if not is_list(told) or len(told) != net.things or not all([is_turn(turn) for turn in told]):
        raise BadNumber("told")
    want_falls(falls, "falls", net.things)
    if len(net.given) > 0:
        raise Misfit("given")
    if net.things > MOST:
        raise TooMany("things", MOST)
    turns = asking_turns(net)
    rules = reading(net, paper.lots)
    found = []
    # Each row of true falls comes in just one way: they tell the turns now, and these the secrets.
    for number in range(1 << net.things):
        truth = [number >> thing & 1 for thing in range(net.things)]
        found.append(way_of(told, falls, turns, rules, truth))
    return tuple(sorted(found))
