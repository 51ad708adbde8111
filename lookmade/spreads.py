"""Spreads: what is done to an amount for each row of bits, place by place."""

from lookmade.checks import is_bit, is_list, is_lot
from lookmade.errors import BadNumber, BadOrder, Misfit, TooMany
from lookmade.reckoning import NOTHING, ONE
from lookmade.rows import beside_row, exchange_row, length_of_row, look_row, mix_row, place_row, places_of
from lookmade.rows import plain_row, tie_row, turn_row
from lookmade.wanted import want_bit, want_number, want_spread, want_turn

MOST = 12


def want_place(value, part, row):
    """Raises BadNumber for what is no place of the row."""
    want_number(value, part, 0, places_of(row) - 1)


def places_in(spread):
    """How many places the spread has."""
    return places_of(want_spread(spread, "spread"))


def length(spread):
    """The length of the spread, a pair."""
    return length_of_row(want_spread(spread, "spread"))


def plain_form(spread):
    """The plain form of the spread."""
    return plain_row(want_spread(spread, "spread"))


def are_alike(one, other):
    """Whether two spreads of as many places are alike."""
    first = want_spread(one, "one")
    second = want_spread(other, "other")
    if len(first) != len(second):
        raise Misfit("size")
    return plain_row(first) == plain_row(second)


def even(many):
    """The spread of so many places whose amounts all are one."""
    want_number(many, "many", 0, MOST)
    return tuple([ONE for _ in range(1 << many)])


def of_bits(bits):
    """The spread in which these bits alone have an amount, which is one."""
    if not is_list(bits) or len(bits) > MOST or not all([is_bit(bit) for bit in bits]):
        raise BadNumber("bits")
    number = sum([bit << place for place, bit in enumerate(bits)])
    return tuple([ONE if at == number else NOTHING for at in range(1 << len(bits))])


def beside(one, other):
    """The spread of both: the places of one, then those of other."""
    first = want_spread(one, "one")
    second = want_spread(other, "other")
    if places_of(first) + places_of(second) > MOST:
        raise TooMany("places", MOST)
    return beside_row(first, second)


def grown(spread):
    """The spread with an even place behind its own."""
    row = want_spread(spread, "spread")
    if places_of(row) == MOST:
        raise TooMany("places", MOST)
    return row + row


def placed(spread, order):
    """The spread of which place j is place order[j] of this one."""
    row = want_spread(spread, "spread")
    if not is_lot(order) or sorted(order) != list(range(places_of(row))):
        raise BadOrder("order")
    return place_row(row, order)


def turned_at(spread, place, turn):
    """The spread, turned at a place."""
    row = want_spread(spread, "spread")
    want_place(place, "place", row)
    want_turn(turn, "turn")
    return turn_row(row, place, turn)


def signed(spread, place):
    """The spread, signed at a place."""
    row = want_spread(spread, "spread")
    want_place(place, "place", row)
    return turn_row(row, place, 4)


def exchanged(spread, place):
    """The spread, exchanged at a place."""
    row = want_spread(spread, "spread")
    want_place(place, "place", row)
    return exchange_row(row, (), place)


def mixed(spread, place):
    """The spread, mixed at a place."""
    row = want_spread(spread, "spread")
    want_place(place, "place", row)
    return mix_row(row, place)


def tied(spread, one, other):
    """The spread, tied at two places."""
    row = want_spread(spread, "spread")
    want_place(one, "one", row)
    want_place(other, "other", row)
    if one == other:
        raise Misfit("other")
    return tie_row(row, one, other)


def looked(spread, place, turn, fall):
    """The spread behind a look at a place, None if this fall never comes."""
    row = want_spread(spread, "spread")
    want_place(place, "place", row)
    want_turn(turn, "turn")
    want_bit(fall, "fall")
    return look_row(row, place, turn, fall)


def share(row, place, turn, fall):
    """The length behind a look, (0, 0) if this fall never comes."""
    found = look_row(row, place, turn, fall)
    return (0, 0) if found is None else length_of_row(found)


def shares(spread, place, turn):
    """The pair of the lengths behind the falls 0 and 1."""
    row = want_spread(spread, "spread")
    want_place(place, "place", row)
    want_turn(turn, "turn")
    return (share(row, place, turn, 0), share(row, place, turn, 1))


def is_even(spread, place, turn):
    """Whether the spreads of both falls have the length that the spread has."""
    row = want_spread(spread, "spread")
    want_place(place, "place", row)
    want_turn(turn, "turn")
    whole = length_of_row(row)
    return share(row, place, turn, 0) == whole and share(row, place, turn, 1) == whole
