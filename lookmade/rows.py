"""Spreads that are known to be right: tuples of amounts, here called rows, dealt with unasked."""

from math import gcd

from lookmade.reckoning import NOTHING, cofactor, length_in, minus, negative, plus, rotated, times


def places_of(row):
    """How many places the row has."""
    return len(row).bit_length() - 1


def length_of_row(row):
    """The lengths of all amounts, added."""
    lengths = [length_in(amount) for amount in row]
    return (sum([p for p, _ in lengths]), sum([q for _, q in lengths]))


def common_divisor(row):
    """The greatest number that divides all integers of the row."""
    found = 0
    for amount in row:
        for number in amount:
            found = gcd(found, number)
    return found


def plain_row(row):
    """The plain form of the row."""
    first = [amount for amount in row if amount != NOTHING][0]
    factor = cofactor(first)
    grown = [times(amount, factor) for amount in row]
    divisor = common_divisor(grown)
    return tuple([tuple([number // divisor for number in amount]) for amount in grown])


def beside_row(one, other):
    """The row of both: the places of one, then those of other."""
    return tuple([times(first, second) for second in other for first in one])


def place_row(row, order):
    """The row of which place j is place order[j] of this one."""
    found = []
    for at in range(len(row)):
        source = sum([(at >> new & 1) << old for new, old in enumerate(order)])
        found.append(row[source])
    return tuple(found)


def turn_row(row, place, turn):
    """Each amount whose bit at the place is 1, turned."""
    return tuple([rotated(amount, turn) if at >> place & 1 else amount for at, amount in enumerate(row)])


def exchange_row(row, ruling, place):
    """The bit at the place exchanged where all the ruling places have 1."""
    bit = 1 << place
    mask = sum([1 << ruler for ruler in ruling])
    return tuple([row[at ^ bit] if at & mask == mask else amount for at, amount in enumerate(row)])


def mix_row(row, place):
    """x + y and x - y in the place of each two amounts x and y whose bits differ there alone."""
    bit = 1 << place
    return tuple([
        minus(row[at ^ bit], amount) if at & bit else plus(amount, row[at ^ bit])
        for at, amount in enumerate(row)
    ])


def tie_row(row, one, other):
    """Each amount whose bits are 1 at both places made its negative."""
    return tuple([negative(amount) if at >> one & at >> other & 1 else amount for at, amount in enumerate(row)])


def look_row(row, place, turn, fall):
    """The row behind a look at the place, None if this fall never comes."""
    bit = 1 << place
    whole = turn + 4 * fall
    found = tuple([
        plus(amount, rotated(row[at ^ bit], whole))
        for at, amount in enumerate(row)
        if not at & bit
    ])
    return None if all([amount == NOTHING for amount in found]) else found
