"""What several test files use."""

from lookmade.errors import LookError


def raised(call, *args, **named):
    """The name of the error that a call raises, with its fields; None if it raises none."""
    try:
        call(*args, **named)
    except LookError as error:
        return (type(error).__name__, *vars(error).values())
    return None


class Oddity:
    """A value of no kind that the package knows."""


def odd_values():
    """Values of all kinds that stand for no number, no bit and no turn."""
    return [None, True, False, "", "1", b"1", 1.0, 2.5, [], [1], (), (1,), {}, {1: 1}, {1}, Oddity(), int, len, range(2)]


class Steps:
    """Numbers that look drawn, but are the same at each run."""

    def __init__(self, start):
        self.state = start

    def below(self, many):
        self.state = (self.state * 6364136223846793005 + 1442695040888963407) % 2 ** 64
        return (self.state >> 33) % many

    def between(self, least, most):
        return least + self.below(most - least + 1)

    def amount(self, size=9):
        return tuple(self.between(-size, size) for _ in range(4))

    def spread(self, places, size=9):
        while True:
            found = tuple(self.amount(size) for _ in range(2 ** places))
            if any(any(amount) for amount in found):
                return found


def as_lists(value):
    """The value with lists in the place of tuples, all the way in."""
    if isinstance(value, (list, tuple)):
        return [as_lists(part) for part in value]
    return value
