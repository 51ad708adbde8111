"""Whether papers of lots are right, by counting alone."""

from lookmade.checks import is_list, is_lot
from lookmade.errors import BadLots, Misfit
from lookmade.lots import Fewest, Lots, Stuck, are_stuck, layers_of, rounds_of
from lookmade.masks import mask_of, met_by, near_masks, not_given
from lookmade.nets import are_things, want_net


def are_ascending(value, things):
    """Whether it is a list of unlike things of a net of so many, ascending."""
    return are_things(value, things) and list(value) == sorted(value)


def are_told_for(value, things):
    """Whether it is a list of pairs with just these things, in their order, before something."""
    if not is_list(value) or not all([is_list(pair) and len(pair) == 2 for pair in value]):
        return False
    told = [pair[0] for pair in value]
    return is_lot(told) and told == list(things)


def are_layers(value, net):
    """Whether it is a list of layers of the net, each ascending and none empty."""
    if not is_list(value):
        return False
    if not all([are_ascending(layer, net.things) and len(layer) > 0 for layer in value]):
        return False
    return sorted([thing for layer in value for thing in layer]) == list(net.looked)


def is_right_lot(thing, lot, near, given, later):
    """Whether the lot is right for a thing, later being the mask of what is kept or in later layers."""
    told = mask_of(lot)
    return told & given == 0 and told & ~later == 0 and met_by(near, lot) & ~later == 1 << thing


def are_right_lots(net, value):
    """Whether a Lots has layers of the net and right lots for them."""
    if not are_layers(value.layers, net) or not are_told_for(value.lots, net.looked):
        return False
    if not all([are_ascending(lot, net.things) for _, lot in value.lots]):
        return False
    near = near_masks(net)
    given = mask_of(net.given)
    lots = dict(value.lots)
    later = mask_of(net.kept)
    for layer in reversed(value.layers):
        if not all([is_right_lot(thing, lots[thing], near, given, later) for thing in layer]):
            return False
        later = later | mask_of(layer)
    return True


def is_right_show(net, near, show, within, watching):
    """Whether a pair (thing, some) has some things of one mask, of which each of the other has an even number."""
    thing, some = show
    if not are_ascending(some, net.things) or thing not in some:
        return False
    return mask_of(some) & ~within == 0 and met_by(near, some) & watching == 0


def is_right_stuck(net, value):
    """Whether a Stuck shows that none of what is left has a lot."""
    if not are_ascending(value.left, net.things) or len(value.left) == 0:
        return False
    if not all([thing in net.looked for thing in value.left]) or not are_told_for(value.shows, value.left):
        return False
    near = near_masks(net)
    left = mask_of(value.left)
    watching = not_given(net) & ~left
    return all([is_right_show(net, near, show, left, watching) for show in value.shows])


def is_lots(value):
    """Whether it is a Lots, made by calling just this class."""
    return isinstance(value, Lots) and value.__class__.__name__ == "Lots"


def is_stuck(value):
    """Whether it is a Stuck, made by calling just this class."""
    return isinstance(value, Stuck) and value.__class__.__name__ == "Stuck"


def is_fewest(value):
    """Whether it is a Fewest, made by calling just this class."""
    return isinstance(value, Fewest) and value.__class__.__name__ == "Fewest"


def want_lots(value, part, net):
    """Raises BadLots for what is no right Lots of the net."""
    if not is_lots(value) or not are_right_lots(net, value):
        raise BadLots(part)


def shows_lots(net, value):
    """Whether it is a right Lots or a right Stuck of the net."""
    want_net(net, "net")
    if is_lots(value):
        return are_right_lots(net, value)
    return is_stuck(value) and is_right_stuck(net, value)


def are_right_shows(net, layers, shows):
    """Whether there is a right show for each thing of each of the layers but the last one."""
    if not are_told_for(shows, sorted([thing for layer in layers[:-1] for thing in layer])):
        return False
    near = near_masks(net)
    told = dict(shows)
    within = 0
    for layer, behind in zip(layers, layers[1:]):
        within = within | mask_of(layer)
        reach = within | mask_of(behind)
        watching = not_given(net) & ~reach
        if not all([is_right_show(net, near, (thing, told[thing]), reach, watching) for thing in layer]):
            return False
    return True


def shows_fewest(net, value):
    """Whether it is a right Fewest of the net."""
    want_net(net, "net")
    rounds = rounds_of(net)
    if are_stuck(rounds):
        raise Misfit("lots")
    layers = layers_of(rounds)
    if not is_fewest(value) or not are_layers(value.layers, net):
        return False
    return list(value.layers) == layers and are_right_shows(net, layers, value.shows)
