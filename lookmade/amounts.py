"""Amounts: sums of eighths of a round, added, multiplied, turned, mirrored and measured."""

from lookmade.reckoning import length_in, plus, reflected, rotated, times
from lookmade.wanted import want_amount, want_turn


def added(one, other):
    """The sum of two amounts."""
    first = want_amount(one, "one")
    return plus(first, want_amount(other, "other"))


def multiplied(one, other):
    """The product of two amounts."""
    first = want_amount(one, "one")
    return times(first, want_amount(other, "other"))


def turned(amount, turn):
    """The amount, turned."""
    told = want_amount(amount, "amount")
    want_turn(turn, "turn")
    return rotated(told, turn)


def mirrored(amount):
    """(a, -d, -c, -b) for the amount (a, b, c, d)."""
    return reflected(want_amount(amount, "amount"))


def length_of(amount):
    """The length of the amount, a pair."""
    return length_in(want_amount(amount, "amount"))
