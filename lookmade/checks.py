"""Whether any values are integers, bits, turns, amounts, spreads and lots."""

SIZES = (1, 2, 4, 8, 16, 32, 64, 128, 256, 512, 1024, 2048, 4096)


def is_integer(value):
    """Whether it is an integer; True and False are none."""
    return isinstance(value, int) and not isinstance(value, bool)


def is_within(value, least, most):
    """Whether it is an integer from least to most, None being no bound."""
    if not is_integer(value):
        return False
    return (least is None or value >= least) and (most is None or value <= most)


def is_bit(value):
    """Whether it is 0 or 1."""
    return is_within(value, 0, 1)


def is_turn(value):
    """Whether it is an integer from 0 to 7."""
    return is_within(value, 0, 7)


def is_list(value):
    """Whether it is a list or tuple."""
    return isinstance(value, (list, tuple))


def is_amount(value):
    """Whether it is a list or tuple of four integers."""
    return is_list(value) and len(value) == 4 and all([is_integer(number) for number in value])


def is_spread(value):
    """Whether it is a list or tuple of 2 ** m amounts, m from 0 to 12, not all of them nothing."""
    if not is_list(value) or len(value) not in SIZES:
        return False
    if not all([is_amount(amount) for amount in value]):
        return False
    return any([number != 0 for amount in value for number in amount])


def is_lot(value):
    """Whether it is a list or tuple of unlike integers from 0 on, perhaps of none."""
    if not is_list(value) or not all([is_within(thing, 0, None) for thing in value]):
        return False
    return len(set(value)) == len(value)
