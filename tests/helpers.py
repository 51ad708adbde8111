"""What several test files use."""

from lookmade.errors import LookError
from lookmade.nets import Net


def raised(call, *args, **named):
    """The name of the error that a call raises, with its fields; None if it raises none."""
    try:
        call(*args, **named)
    except LookError as error:
        return (type(error).__name__, *vars(error).values())
    return None


class Oddity:
    """A value of no kind that the package knows."""


class Alike:
    """A value that says of all others that they are equal to it."""

    def __eq__(self, other):
        return True

    def __hash__(self):
        return 0


def odd_values():
    """Values of all kinds that stand for no number, no bit and no turn."""
    return [None, True, False, "", "1", b"1", 1.0, 2.5, [], [1], (), (1,), {}, {1: 1}, {1}, Oddity(), int, len, range(2)]


class Steps:
    """Numbers that look drawn, but are the same at each run."""

    def __init__(self, start):
        self.state = start

    def below(self, many):
        self.state = (self.state * 6364136223846793005 + 1442695040888963407) % 2 ** 64
        return (self.state >> 33) % many

    def between(self, least, most):
        return least + self.below(most - least + 1)

    def amount(self, size=9):
        return tuple(self.between(-size, size) for _ in range(4))

    def spread(self, places, size=9):
        while True:
            found = tuple(self.amount(size) for _ in range(2 ** places))
            if any(any(amount) for amount in found):
                return found


def as_lists(value):
    """The value with lists in the place of tuples, all the way in."""
    if isinstance(value, (list, tuple)):
        return [as_lists(part) for part in value]
    return value


def drawn_list(steps, things, chance):
    """Some of the things, each with a chance of so many in ten, in an order that looks drawn."""
    left = [thing for thing in things if steps.below(10) < chance]
    found = []
    while left:
        found.append(left.pop(steps.below(len(left))))
    return found


def drawn_net(steps, things, given=3, kept=4, strings=5, turns=range(8)):
    """A net that looks drawn; given, kept and strings are chances of so many in ten."""
    ties = drawn_list(steps, [(low, high) for high in range(things) for low in range(high)], strings)
    given = drawn_list(steps, range(things), given)
    kept = drawn_list(steps, range(things), kept)
    ties = [tie if steps.below(2) else tie[::-1] for tie in ties]
    return Net(things, ties, given, kept, {thing: turns[steps.below(len(turns))] for thing in range(things)
                                           if thing not in kept})


def renumbered(net, names):
    """The net with names[k] in the place of thing k."""
    return Net(net.things, [(names[one], names[other]) for one, other in net.strings], [names[thing] for thing in net.given],
               [names[thing] for thing in net.kept], [(names[thing], turn) for thing, turn in net.turns])


def threaded_net(steps, wires, most):
    """A net of some wires of things one behind another and a few strings more, numbered as if drawn."""
    things = steps.between(wires, most)
    strings = [(at, at + wires) for at in range(things - wires)]
    others = [(low, high) for high in range(things) for low in range(high) if (low, high) not in strings]
    strings += drawn_list(steps, others, steps.below(3))
    kept = list(range(things - wires, things))
    given = drawn_list(steps, range(wires), 5)
    turns = {thing: steps.below(8) for thing in range(things - wires)}
    return renumbered(Net(things, strings, given, kept, turns), drawn_list(steps, range(things), 10))


def bent(value, numbers):
    """The value bent at one place each: a part exchanged, put in, left out, doubled, its numbers others, of other kinds."""
    found = [None, True, "", 7.0, {}, Oddity()]
    if type(value) is int:
        return [*found, *numbers, float(value), str(value), -1, -value, (value,), bool(value)]
    if isinstance(value, str):
        return [*found, *numbers, value + " ", value[:-1], value.upper(), "quarter", "pair", "turn", (value,), (), 0]
    found += [(), (value,), (*value, *value), value[::-1], dict.fromkeys(range(len(value))), 0]
    for at, part in enumerate(value):
        found += [(*value[:at], other, *value[at + 1:]) for other in bent(part, numbers)]
        found += [(*value[:at], *value[at + 1:]), (*value[:at], part, part, *value[at + 1:])]
        found += [(*value[:at], number, *value[at:]) for number in numbers]
    for at in range(len(value) - 1):
        one, other = value[at:at + 2]
        found.append((*value[:at], other, one, *value[at + 2:]))
        if isinstance(one, tuple) and isinstance(other, tuple):
            found.append((*value[:at], tuple(sorted((*one, *other), key=repr)), *value[at + 2:]))
    for at, part in enumerate(value):
        if isinstance(part, tuple) and len(part) > 1:
            found += [(*value[:at], part[:1], part[1:], *value[at + 1:]), (*value[:at], part[1:], part[:1], *value[at + 1:])]
    return [*found, (*value, ()), ((), *value), (*value, *[(number,) for number in numbers])]
