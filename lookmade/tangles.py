"""Nets that are made lesser: what can go, and what is left behind it."""

from lookmade.masks import mask_of, near_masks, things_of
from lookmade.nets import Net


def closed_up(mask, thing):
    """The mask without a thing, those above it being numbered anew."""
    below = (1 << thing) - 1
    return (mask & below) | (mask >> 1 & ~below)


class Tangle:
    """A net that is made lesser step by step: for each thing the mask of its neighbours, and its turn."""

    def __init__(self, net):
        turns = dict(net.turns)
        self.near = near_masks(net)
        # A kept thing has no turn: what stands here for it is never read.
        self.turns = [turns.get(thing, 0) for thing in range(net.things)]
        self.given = list(net.given)
        self.kept = list(net.kept)

    def free(self, turns):
        """The mask of the things looked at by one of these turns that are not given, nor tied to a kept one."""
        held = mask_of([*self.given, *self.kept])
        for thing in self.kept:
            held = held | self.near[thing]
        return mask_of([thing for thing, turn in enumerate(self.turns) if turn in turns]) & ~held

    def quarters(self):
        """The mask of the things that can go by a quarter."""
        return self.free((2, 6)) if len(self.near) > 1 else 0

    def halves(self):
        """The mask of the things each two of which, if they are tied, can go as a pair."""
        return self.free((0, 4)) if len(self.near) > 2 else 0

    def lets(self, step):
        """Whether a step of things of the net can be done, the two of a pair being told in any order."""
        if step[0] == "quarter":
            return self.quarters() >> step[1] & 1 == 1
        _, one, other = step
        halves = self.halves()
        return halves >> one & halves >> other & self.near[one] >> other & 1 == 1

    def next_step(self):
        """The step by which the net is lessened, None if nothing can go."""
        quarters = things_of(self.quarters())
        if quarters:
            return ("quarter", quarters[0])
        halves = self.halves()
        for thing in things_of(halves):
            partners = things_of(self.near[thing] & halves)
            if partners:
                return ("pair", thing, partners[0])
        return None

    def do(self, step):
        """Does a step that can be done."""
        if step[0] == "quarter":
            self.lose_quarter(step[1])
        else:
            self.lose_pair(step[1], step[2])

    def lose_quarter(self, thing):
        """Lets a thing go by a quarter."""
        near = self.near[thing]
        for other in things_of(near):
            self.near[other] = self.near[other] ^ (near & ~(1 << other))
            # Modulo 8 to grow by 6 is to lose 2, and the other way round.
            self.turns[other] = (self.turns[other] - self.turns[thing]) % 8
        self.close_up(thing)

    def lose_pair(self, one, other):
        """Lets two things go as a pair."""
        # Each of the two is among the neighbours of the other one: what becomes of it goes with it.
        first = self.near[one]
        second = self.near[other]
        both = first & second
        turns = (self.turns[one], self.turns[other])
        for sort, turn in ((first & ~both, turns[1]), (second & ~both, turns[0]), (both, sum(turns) + 4)):
            for thing in things_of(sort):
                self.near[thing] = self.near[thing] ^ ((first | second) & ~sort)
                self.turns[thing] = (self.turns[thing] + turn) % 8
        self.close_up(max(one, other))
        self.close_up(min(one, other))

    def close_up(self, thing):
        """Takes a thing away with all its strings; those above it are numbered anew."""
        self.near = [closed_up(mask, thing) for at, mask in enumerate(self.near) if at != thing]
        self.turns = [turn for at, turn in enumerate(self.turns) if at != thing]
        self.given = [other - 1 if other > thing else other for other in self.given]
        self.kept = [other - 1 if other > thing else other for other in self.kept]

    def as_net(self):
        """The net that it is now."""
        strings = [(low, high) for high, mask in enumerate(self.near) for low in things_of(mask) if low < high]
        turns = [(thing, turn) for thing, turn in enumerate(self.turns) if thing not in self.kept]
        return Net(len(self.near), strings, self.given, self.kept, turns)
