"""Meanings: what the deeds of a program leave of a spread."""

from lookmade.errors import Misfit
from lookmade.programs import want_program
from lookmade.reckoning import NOTHING, length_in
from lookmade.rows import exchange_row, mix_row, place_row, places_of, plain_row, tie_row, turn_row
from lookmade.wanted import want_spread


def swap_row(row, one, other):
    """The row with both places in the place of one another."""
    order = list(range(places_of(row)))
    order[one], order[other] = other, one
    return place_row(row, order)


def done(row, deed):
    """What the deed leaves of the row."""
    word = deed[0]
    if word == "turn":
        return turn_row(row, deed[1], deed[2])
    if word == "mix":
        return mix_row(row, deed[1])
    if word == "sign":
        return tie_row(row, deed[1], deed[2])
    if word == "swap":
        return swap_row(row, deed[1], deed[2])
    # A not, an under and a both are exchanges of the last wire, ruled by all wires before it.
    return exchange_row(row, deed[1:-1], deed[-1])


def meaning(program, spread):
    """The plain form of what the deeds of the program leave of the spread."""
    want_program(program, "program")
    row = want_spread(spread, "spread")
    if places_of(row) != program.wires:
        raise Misfit("wires")
    for deed in program.deeds:
        row = done(row, deed)
    return plain_row(row)


def readings(program, spread):
    """The pairs of the number and the length of each amount of the meaning that is not nothing."""
    found = meaning(program, spread)
    return tuple([(at, length_in(amount)) for at, amount in enumerate(found) if amount != NOTHING])
