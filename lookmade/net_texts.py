"""Texts of nets: what a net is made of, read out of its text."""

from lookmade.errors import BadText
from lookmade.texts import read_end, read_integer, read_item, read_word, rows_of


def read_things(rows, line, word, things):
    """The unlike things that a line tells behind its word."""
    read_word(rows, line, word)
    found = []
    for item in range(1, len(rows[line])):
        thing = read_integer(rows, line, item, 0, things - 1)
        if thing in found:
            raise BadText(line, item)
        found.append(thing)
    return found


def read_string(rows, line, things, last):
    """The string that a line tells, which stands behind the last one."""
    low = read_integer(rows, line, 1, last[0], things - 1)
    least = last[1] + 1 if low == last[0] else low + 1
    high = read_integer(rows, line, 2, least, things - 1)
    read_end(rows, line, 3)
    return (low, high)


def read_strings(rows, line, things):
    """The strings that are told from this line on, as far as lines of strings stand."""
    found = []
    last = (0, 0)
    while line < len(rows) and read_item(rows, line, 0) == "string":
        last = read_string(rows, line, things, last)
        found.append(last)
        line = line + 1
    return found


def read_turn(rows, line, thing):
    """The turn that a line tells for this thing."""
    read_word(rows, line, "turn")
    read_integer(rows, line, 1, thing, thing)
    turn = read_integer(rows, line, 2, 0, 7)
    read_end(rows, line, 3)
    return (thing, turn)


def read_net(text, most):
    """The things, at most so many, strings, given and kept things and turns of the net whose text this is."""
    rows = rows_of(text)
    read_word(rows, 0, "things")
    things = read_integer(rows, 0, 1, 1, most)
    read_end(rows, 0, 2)
    given = read_things(rows, 1, "given", things)
    kept = read_things(rows, 2, "kept", things)
    strings = read_strings(rows, 3, things)
    line = 3 + len(strings)
    turns = []
    for thing in range(things):
        if thing not in kept:
            turns.append(read_turn(rows, line, thing))
            line = line + 1
    if line < len(rows):
        raise BadText(line, 0)
    return (things, strings, given, kept, turns)
