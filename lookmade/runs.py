"""Runs: the turn now of a thing, and the one end of all falls."""

from lookmade.check_lots import want_lots
from lookmade.checks import is_bit, is_list
from lookmade.errors import BadFalls, BadOrder, Misfit, TooMany
from lookmade.looks import want_falls
from lookmade.nets import are_things, is_order, pairs_of, want_looked, want_net
from lookmade.players import MOST, Player
from lookmade.waits import follows, live_most, ruling, turn_by, waited_for
from lookmade.wanted import want_spread


def want_heard(value, part, net):
    """Raises BadFalls for no list of pairs (thing, fall) of unlike looked things."""
    if not is_list(value) or not all([is_list(pair) and len(pair) == 2 for pair in value]):
        raise BadFalls(part)
    things = [pair[0] for pair in value]
    if not are_things(things, net.things) or not all([is_bit(pair[1]) for pair in value]):
        raise BadFalls(part)
    if any([thing in net.kept for thing in things]):
        raise BadFalls(part)


def want_known(value, part, net):
    """The dict of falls that pairs, or a dict, tell of looked things: BadFalls for no such."""
    pairs = pairs_of(value)
    want_heard(pairs, part, net)
    return {thing: fall for thing, fall in pairs}


def turn_now(net, paper, thing, falls):
    """The turn now of a looked thing, by the falls of those that it waits for."""
    want_net(net, "net")
    want_lots(paper, "paper", net)
    want_looked(thing, "thing", net)
    known = want_known(falls, "falls", net)
    exchanging, signing = ruling(net, paper.lots)[thing]
    if not all([other in known for other in [*exchanging, *signing]]):
        raise Misfit("falls")
    return turn_by(dict(net.turns)[thing], (exchanging, signing), known)


def end_of(net, paper, spread, order, falls):
    """The end of the run that looks in this order, with these falls."""
    want_net(net, "net")
    want_lots(paper, "paper", net)
    row = want_spread(spread, "spread")
    if not is_order(order, net) or not follows(order, waited_for(ruling(net, paper.lots))):
        raise BadOrder("order")
    want_falls(falls, "falls", len(order))
    player = Player(net, paper, row)
    # Asked before the first look, so that no great spread is reckoned in vain.
    if live_most(net, order) > MOST:
        raise TooMany("live", MOST)
    for thing, fall in zip(order, falls):
        player.look(thing, fall)
    return player.end()
