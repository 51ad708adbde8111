"""Walls: nets whose strings tell nothing of a program."""

from lookmade.errors import TooMany
from lookmade.lots import Lots
from lookmade.nets import MOST, Net
from lookmade.wanted import want_number

COLUMNS = 14


def want_columns(value, part):
    """Raises BadNumber for what is no number of columns."""
    want_number(value, part, 1, COLUMNS)


def want_few(wires, columns):
    """Raises TooMany for a wall that would have more things than a net may have."""
    if wires * (4 * columns + 1) > MOST:
        raise TooMany("things", MOST)


def want_sizes(wires, columns):
    """Raises what a wall of these sizes raises."""
    want_number(wires, "wires", 2, 4)
    want_columns(columns, "columns")
    want_few(wires, columns)


def pairs_in(wires, column):
    """The pairs of wires that a column pairs, ascending."""
    return tuple([(low, low + 1) for low in range(column % 2, wires - 1, 2)])


def wall_strings(wires, columns):
    """The strings of a wall, a list."""
    found = [(thing, thing + wires) for thing in range(4 * wires * columns)]
    for column in range(columns):
        for low, high in pairs_in(wires, column):
            for at in (4 * column + 2, 4 * column + 4):
                found.append((low + wires * at, high + wires * at))
    return found


def wall_net(wires, columns, turns):
    """The wall with these turns, one for each looked thing, ascending."""
    looked = 4 * wires * columns
    given = list(range(wires))
    kept = [looked + wire for wire in given]
    return Net(looked + wires, wall_strings(wires, columns), given, kept, list(enumerate(turns)))


def shape(wires, columns):
    """The wall, looked at by turns of 0 alone."""
    want_sizes(wires, columns)
    return wall_net(wires, columns, [0 for _ in range(4 * wires * columns)])


def wall_lots(wires, columns):
    """The Lots of the wall: the lot of each thing is the next one of its wire."""
    want_sizes(wires, columns)
    looked = 4 * wires * columns
    layers = [tuple(range(first, first + wires)) for first in range(0, looked, wires)]
    return Lots(layers, [(thing, (thing + wires,)) for thing in range(looked)])


def paired(wires, column):
    """The pairs of wires that a column of a wall pairs, ascending."""
    want_number(wires, "wires", 2, 4)
    want_number(column, "column", 0, COLUMNS - 1)
    return pairs_in(wires, column)
