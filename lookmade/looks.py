"""Nets begun on a spread, and what is left when each thing is looked at by its own turn, whatever it is."""

from lookmade.checks import is_bit, is_list
from lookmade.errors import BadFalls, BadOrder, Misfit, TooMany
from lookmade.nets import is_order, want_net
from lookmade.rows import length_of_row, look_row, place_row, places_of, plain_row, tie_row
from lookmade.wanted import want_spread

MOST = 12


def want_falls(value, part, many):
    """Raises BadFalls for no list of so many bits."""
    if not is_list(value) or len(value) != many or not all([is_bit(fall) for fall in value]):
        raise BadFalls(part)


def want_fit(net, row):
    """Raises Misfit or TooMany for a net that cannot be begun on the row."""
    if places_of(row) != len(net.given):
        raise Misfit("given")
    if net.things > MOST:
        raise TooMany("things", MOST)


def begun_row(net, row):
    """The row of all things of the net, begun on the row of those that are given."""
    found = []
    for at in range(1 << net.things):
        source = sum([(at >> thing & 1) << place for place, thing in enumerate(net.given)])
        found.append(row[source])
    for low, high in net.strings:
        found = tie_row(found, low, high)
    return tuple(found)


def rows_behind(net, row, order, falls):
    """The row that the net is begun on, then that behind each look: None from a fall on that never comes."""
    rows = [begun_row(net, row)]
    left = list(range(net.things))
    turns = dict(net.turns)
    for thing, fall in zip(order, falls):
        if rows[-1] is None:
            rows.append(None)
            continue
        place = left.index(thing)
        left.remove(thing)
        rows.append(look_row(rows[-1], place, turns[thing], fall))
    return rows


def asked_rows(net, spread, order, falls):
    """The rows of a net that is looked at, all arguments being asked for their errors first."""
    want_net(net, "net")
    row = want_spread(spread, "spread")
    if not is_order(order, net):
        raise BadOrder("order")
    want_falls(falls, "falls", len(order))
    want_fit(net, row)
    return rows_behind(net, row, order, falls)


def begun(net, spread):
    """The spread of all things on which the net is begun."""
    want_net(net, "net")
    row = want_spread(spread, "spread")
    want_fit(net, row)
    return begun_row(net, row)


def bare_end(net, spread, order, falls):
    """The plain form of what is left of the kept things, None if one of the falls never comes."""
    row = asked_rows(net, spread, order, falls)[-1]
    if row is None:
        return None
    left = sorted(net.kept)
    return plain_row(place_row(row, [left.index(thing) for thing in net.kept]))


def bare_lengths(net, spread, order, falls):
    """The lengths of what the net is begun on, and of what is left behind each look."""
    rows = asked_rows(net, spread, order, falls)
    return tuple([(0, 0) if row is None else length_of_row(row) for row in rows])
