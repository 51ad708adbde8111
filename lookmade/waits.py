"""What waits for what, which orders are let, and how many things are live at most."""

from lookmade.check_lots import want_lots
from lookmade.errors import BadOrder
from lookmade.masks import mask_of, met_by, near_masks, things_of
from lookmade.nets import is_order, want_net, want_thing


def ruling(net, lots):
    """For each thing of the net the pair of the things that exchange it and of those that sign it, ascending."""
    near = near_masks(net)
    exchanging = [[] for _ in range(net.things)]
    signing = [[] for _ in range(net.things)]
    for thing, lot in lots:
        for other in lot:
            exchanging[other].append(thing)
        for other in things_of(met_by(near, lot) & ~(1 << thing)):
            signing[other].append(thing)
    return [(tuple(one), tuple(other)) for one, other in zip(exchanging, signing)]


def waited_for(rules):
    """For each thing the mask of all that it waits for."""
    return [mask_of([*one, *other]) for one, other in rules]


def turn_by(turn, rule, falls):
    """The turn now of a thing with this turn, by the falls, a dict, of the things that exchange it and sign it."""
    exchanging, signing = rule
    exchanges = sum([falls[thing] for thing in exchanging])
    signs = sum([falls[thing] for thing in signing])
    told = 8 - turn if exchanges % 2 == 1 else turn
    return (told + 4 * signs) % 8


def ready_things(net, waiting, done):
    """The looked things, ascending, that are not done and wait for none that is not, done being a mask."""
    return tuple([thing for thing in net.looked if not done >> thing & 1 and waiting[thing] & ~done == 0])


def waves_of(net, waiting):
    """The looked things in waves, a list: each thing stands as early as it can behind all that it waits for."""
    found = []
    done = 0
    wave = ready_things(net, waiting, done)
    while wave:
        found.append(wave)
        done = done | mask_of(wave)
        wave = ready_things(net, waiting, done)
    return found


def follows(order, waiting):
    """Whether each thing of an order of the net stands behind all that it waits for."""
    done = 0
    for thing in order:
        if waiting[thing] & ~done:
            return False
        done = done | 1 << thing
    return True


def live_most(net, order):
    """How many things are live at most if a player looks in this order of the net."""
    near = near_masks(net)
    made = mask_of(net.given)
    live = len(net.given)
    most = live
    for thing in order:
        wanted = near[thing] | 1 << thing
        live = live + len(things_of(wanted & ~made))
        made = made | wanted
        most = max(most, live)
        live = live - 1
    return max(most, live + len(things_of(mask_of(net.kept) & ~made)))


def waits(net, paper, thing):
    """The pair of the things that exchange a thing of the net, and of those that sign it."""
    want_net(net, "net")
    want_lots(paper, "paper", net)
    want_thing(thing, "thing", net)
    return ruling(net, paper.lots)[thing]


def is_let(net, paper, order):
    """Whether it is an order of the net in which each thing stands behind all that it waits for."""
    want_net(net, "net")
    want_lots(paper, "paper", net)
    return is_order(order, net) and follows(order, waited_for(ruling(net, paper.lots)))


def first_order(net, paper):
    """The least order that is let."""
    want_net(net, "net")
    want_lots(paper, "paper", net)
    waiting = waited_for(ruling(net, paper.lots))
    order = []
    while len(order) < len(net.looked):
        order.append(ready_things(net, waiting, mask_of(order))[0])
    return tuple(order)


def most_live(net, order):
    """How many things are live at most if a player looks in this order."""
    want_net(net, "net")
    if not is_order(order, net):
        raise BadOrder("order")
    return live_most(net, order)
