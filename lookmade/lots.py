"""Lots: which later things put right what a fall spoils, and what shows that there are none, or no fewer layers."""

from lookmade.errors import Misfit
from lookmade.masks import mask_of, near_masks, not_given, things_of
from lookmade.nets import want_net
from lookmade.papers import Denial, Paper, fixed


class Lots(Paper):
    """Layers, and right lots for them."""

    def __init__(self, layers, lots):
        Paper.__init__(self, "lots", layers, lots)
        self.layers = fixed(layers)
        self.lots = fixed(lots)


class Stuck(Denial):
    """There are no right lots: what is left, and for each thing of it what shows that it has no lot."""

    def __init__(self, left, shows):
        Denial.__init__(self, "stuck", left, shows)
        self.left = fixed(left)
        self.shows = fixed(shows)


class Fewest(Paper):
    """The latest layers, and for each thing before the last one what shows that it cannot stand nearer to the end."""

    def __init__(self, layers, shows):
        Paper.__init__(self, "fewest", layers, shows)
        self.layers = fixed(layers)
        self.shows = fixed(shows)


def reduced(rows):
    """Pairs (row, lot) of masks, added to one another, by the last things of the rows, which no other row has.

    Each row that is told has a lot of one thing; each row that comes is the sum of those of its lot.
    """
    found = {}
    for told, source in rows:
        row, lot = told, source
        for last, (other, others) in found.items():
            if row >> last & 1:
                row, lot = row ^ other, lot ^ others
        if row == 0:
            continue
        fresh = row.bit_length() - 1
        for last, (other, others) in list(found.items()):
            if other >> fresh & 1:
                found[last] = (other ^ row, others ^ lot)
        found[fresh] = (row, lot)
    return found


def rounds_of(net):
    """The rounds in which layers are found, from the end: triples of what is left, the rows, and what is found.

    The rows are those of the done things that were not given, reduced: what they meet oddly of what is left. If
    the last round finds none, what is left there has no right lots.
    """
    near = near_masks(net)
    fit = not_given(net)
    left = mask_of(net.looked)
    rounds = []
    while left:
        rows = reduced([(near[thing] & left, 1 << thing) for thing in things_of(fit & ~left)])
        found = mask_of([last for last, (row, _) in rows.items() if row == 1 << last])
        rounds.append((left, rows, found))
        if found == 0:
            break
        left = left & ~found
    return rounds


def are_stuck(rounds):
    """Whether the rounds end without a lot for something that is left."""
    return len(rounds) > 0 and rounds[-1][2] == 0


def layers_of(rounds):
    """The layers that were found, the first ones first."""
    return [things_of(found) for _, _, found in reversed(rounds)]


def even_for(rows, thing):
    """Some things, this one among them, of which each reduced row has an even number; no row is this thing alone."""
    # A thing that is the last one of a row has others before it there, none of which is the last one of a row.
    free = things_of(rows[thing][0])[0] if thing in rows else thing
    return sorted([free, *[last for last, (row, _) in rows.items() if row >> free & 1]])


def lots_of(net):
    """The Lots of the latest layers, or the Stuck of what is left."""
    want_net(net, "net")
    rounds = rounds_of(net)
    if are_stuck(rounds):
        left, rows, _ = rounds[-1]
        return Stuck(things_of(left), [(thing, even_for(rows, thing)) for thing in things_of(left)])
    lots = [(thing, things_of(rows[thing][1])) for _, rows, found in rounds for thing in things_of(found)]
    return Lots(layers_of(rounds), sorted(lots))


def has_lots(net):
    """Whether there are right lots for some layers."""
    want_net(net, "net")
    return not are_stuck(rounds_of(net))


def fewest(net):
    """The Fewest of the latest layers."""
    want_net(net, "net")
    rounds = rounds_of(net)
    if are_stuck(rounds):
        raise Misfit("lots")
    shows = []
    for at in range(1, len(rounds)):
        # What a round finds had no lot yet in the round before it, which found the layer behind.
        rows = rounds[at - 1][1]
        shows.extend([(thing, even_for(rows, thing)) for thing in things_of(rounds[at][2])])
    return Fewest(layers_of(rounds), sorted(shows))
