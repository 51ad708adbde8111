"""What is asked of arguments: each function raises the error that is told, and may give a copy in tuples."""

from lookmade.checks import is_amount, is_spread, is_within
from lookmade.errors import BadAmount, BadNumber, BadSpread
from lookmade.papers import fixed


def want_number(value, part, least, most):
    """Raises BadNumber for what is no integer from least to most."""
    if not is_within(value, least, most):
        raise BadNumber(part)


def want_turn(value, part):
    """Raises BadNumber for what is no turn."""
    want_number(value, part, 0, 7)


def want_bit(value, part):
    """Raises BadNumber for what is no bit."""
    want_number(value, part, 0, 1)


def want_amount(value, part):
    """The amount as a tuple: BadAmount for what is none."""
    if not is_amount(value):
        raise BadAmount(part)
    return fixed(value)


def want_spread(value, part):
    """The spread as a tuple of tuples: BadSpread for what is none."""
    if not is_spread(value):
        raise BadSpread(part)
    return fixed(value)
