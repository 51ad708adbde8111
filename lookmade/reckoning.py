"""Amounts that are known to be right: tuples of four integers, reckoned with unasked."""

NOTHING = (0, 0, 0, 0)
ONE = (1, 0, 0, 0)


def plus(one, other):
    """The sum of two amounts."""
    return (one[0] + other[0], one[1] + other[1], one[2] + other[2], one[3] + other[3])


def minus(one, other):
    """The first amount less the second one."""
    return (one[0] - other[0], one[1] - other[1], one[2] - other[2], one[3] - other[3])


def negative(amount):
    """The amount with the other sign."""
    a, b, c, d = amount
    return (-a, -b, -c, -d)


def times(one, other):
    """The product of two amounts, w to the 4 being -1."""
    a, b, c, d = one
    e, f, g, h = other
    return (
        a * e - b * h - c * g - d * f,
        a * f + b * e - c * h - d * g,
        a * g + b * f + c * e - d * h,
        a * h + b * g + c * f + d * e,
    )


def rotated(amount, turn):
    """The amount, multiplied by w as often as turn tells, 0 or more times."""
    a, b, c, d = amount
    for _ in range(turn % 8):
        a, b, c, d = -d, a, b, c
    return (a, b, c, d)


def reflected(amount):
    """The amount with w to the 7 in the place of w."""
    a, b, c, d = amount
    return (a, -d, -c, -b)


def length_in(amount):
    """The pair (p, q) of which p + q r is the length of the amount."""
    a, b, c, d = amount
    return (a * a + b * b + c * c + d * d, a * b + b * c + c * d - d * a)


def cofactor(amount):
    """An amount that makes an integer above 0 of this one, which is not nothing, if both are multiplied."""
    # The product with the reflected amount is p + q r, and p + q r times p - q r is p p - 2 q q, an integer.
    p, q = length_in(amount)
    return times(reflected(amount), (p, -q, 0, q))
