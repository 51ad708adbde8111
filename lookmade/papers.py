"""Papers and denials: what tells an answer, and what shows it."""


def fixed(value):
    """The value with tuples in the place of lists, all the way in; other values stay."""
    if isinstance(value, (list, tuple)):
        return tuple([fixed(part) for part in value])
    return value


def are_same(one, other):
    """Whether two papers are of one class, and have equal words and equal parts."""
    if one.__class__.__name__ != other.__class__.__name__:
        return False
    return one.word == other.word and one.parts == other.parts


class Paper:
    """A paper: true."""

    def __init__(self, word, *parts):
        self.word = word
        self.parts = fixed(parts)

    def __eq__(self, other):
        return isinstance(other, Paper) and are_same(self, other)

    def __bool__(self):
        return True


class Denial(Paper):
    """A paper that says no: false."""

    def __init__(self, word, *parts):
        self.word = word
        self.parts = fixed(parts)

    def __eq__(self, other):
        return isinstance(other, Denial) and are_same(self, other)

    def __bool__(self):
        return False
