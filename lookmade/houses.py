"""Houses: several hands look at the things of one net, each at what it was given."""

from lookmade.check_lots import want_lots
from lookmade.checks import is_bit, is_integer
from lookmade.errors import BadFalls, NoName, Nothing, Twice
from lookmade.masks import mask_of
from lookmade.nets import want_net
from lookmade.players import Player
from lookmade.waits import ready_things, ruling, waited_for, waves_of
from lookmade.wanted import want_number, want_spread

MOST_HANDS = 8


def want_hands(value):
    """Raises BadNumber for no number of hands."""
    want_number(value, "hands", 1, MOST_HANDS)


def waves(net, paper):
    """The waves, each an ascending tuple."""
    want_net(net, "net")
    want_lots(paper, "paper", net)
    return tuple(waves_of(net, waited_for(ruling(net, paper.lots))))


def rounds(net, paper, hands):
    """The rounds with so many hands, each the ascending tuple of the things that are looked at in it."""
    want_net(net, "net")
    want_lots(paper, "paper", net)
    want_hands(hands)
    waiting = waited_for(ruling(net, paper.lots))
    found = []
    done = 0
    given = ready_things(net, waiting, done)[:hands]
    while given:
        found.append(given)
        done = done | mask_of(given)
        given = ready_things(net, waiting, done)[:hands]
    return tuple(found)


class House:
    """Gives things to hands, hears how they fell, and puts the end right."""

    def __init__(self, net, paper, spread, hands):
        want_net(net, "net")
        want_lots(paper, "paper", net)
        row = want_spread(spread, "spread")
        want_hands(hands)
        self._player = Player(net, paper, row)
        self._falls = {}
        # All things that some hand has or had.
        self._given = {}
        self.hands = hands
        self.held = tuple([None for _ in range(hands)])
        self.known = ()
        self.order = ()
        self.done = len(net.looked) == 0

    def give(self, hand):
        """The pair of the thing that the hand has now and its turn now, None if it is given nothing."""
        want_number(hand, "hand", 0, self.hands - 1)
        thing = self.held[hand]
        if thing is None:
            thing = self._next_thing()
        if thing is None:
            return None
        self._given[thing] = True
        self.held = (*self.held[:hand], thing, *self.held[hand + 1:])
        return (thing, self._player.asks(thing))

    def hears(self, thing, fall):
        """Lets the fall of a thing be heard, and returns whether it was new."""
        if not is_integer(thing) or thing not in self._given:
            raise NoName(thing)
        if not is_bit(fall):
            raise BadFalls("fall")
        if thing in self._falls:
            if self._falls[thing] != fall:
                raise Twice(thing)
            return False
        self._player.look(thing, fall)
        self._falls[thing] = fall
        self.held = tuple([None if other == thing else other for other in self.held])
        self.known = tuple(sorted(list(self._falls.items())))
        self.order = (*self.order, thing)
        self.done = len(self.order) == len(self._player.net.looked)
        return True

    def lost(self, hand):
        """Lets what the hand has come back, and returns it, None if it has nothing."""
        want_number(hand, "hand", 0, self.hands - 1)
        thing = self.held[hand]
        self.held = (*self.held[:hand], None, *self.held[hand + 1:])
        return thing

    def end(self):
        """The end, put right, as its plain form."""
        if not self.done:
            raise Nothing()
        return self._player.end()

    def _next_thing(self):
        """The least thing to be looked at that waits for nothing more and that no hand has, None if there is none."""
        for thing in self._player.ready():
            if thing not in self.held:
                return thing
        return None
