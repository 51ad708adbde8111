"""Players: things are made late, looked at by their turns now, and what is left is put right."""

from lookmade.check_lots import want_lots
from lookmade.checks import is_bit
from lookmade.errors import BadFalls, Misfit, TooMany, Twice
from lookmade.masks import mask_of, near_masks, things_of
from lookmade.nets import want_looked, want_net
from lookmade.rows import exchange_row, length_of_row, look_row, place_row, places_of, plain_row, tie_row, turn_row
from lookmade.waits import ready_things, ruling, turn_by, waited_for
from lookmade.wanted import want_spread

MOST = 12


def tied_row(row, places, near):
    """The row with all strings between its things tied, places being these things in the order of their places."""
    found = row
    for place, thing in enumerate(places):
        for other in range(place):
            if near[thing] >> places[other] & 1:
                found = tie_row(found, other, place)
    return found


def made_row(row, places, thing, near):
    """The row with one place more, behind its own: the thing, even, and tied to its neighbours."""
    found = row + row
    for place, other in enumerate(places):
        if near[thing] >> other & 1:
            found = tie_row(found, place, len(places))
    return found


def righted_row(row, net, rules, falls):
    """The row of the kept things, in the order in which they are kept, put right."""
    found = row
    for place, thing in enumerate(net.kept):
        exchanging, signing = rules[thing]
        if sum([falls[other] for other in exchanging]) % 2 == 1:
            found = exchange_row(found, (), place)
        if sum([falls[other] for other in signing]) % 2 == 1:
            found = turn_row(found, place, 4)
    return found


class Player:
    """Looks at the things of a net, one behind the other, and makes each as late as can be."""

    def __init__(self, net, paper, spread):
        want_net(net, "net")
        want_lots(paper, "paper", net)
        row = want_spread(spread, "spread")
        if places_of(row) != len(net.given):
            raise Misfit("spread")
        self.net = net
        self.heard = ()
        self.live = tuple(sorted(net.given))
        self.most = len(net.given)
        self._near = near_masks(net)
        self._rules = ruling(net, paper.lots)
        self._waiting = waited_for(self._rules)
        self._turns = dict(net.turns)
        self._falls = {}
        self._made = mask_of(net.given)
        # The things of the places of the row: they stand in the order in which they were made.
        self._places = list(net.given)
        self._row = tied_row(row, self._places, self._near)
        self.length = length_of_row(self._row)

    def ready(self):
        """The looked things that were not looked at, and wait for none that was not."""
        return ready_things(self.net, self._waiting, mask_of(self._falls))

    def asks(self, thing):
        """The turn now of a thing."""
        want_looked(thing, "thing", self.net)
        self._want_ready(thing)
        return self._turn_now(thing)

    def look(self, thing, fall):
        """Looks at a thing that falls so, and returns its turn now."""
        want_looked(thing, "thing", self.net)
        if not is_bit(fall):
            raise BadFalls("fall")
        self._want_ready(thing)
        self._make(self._near[thing] | 1 << thing)
        turn = self._turn_now(thing)
        place = self._places.index(thing)
        self._places.remove(thing)
        self._row = look_row(self._row, place, turn, fall)
        self._falls[thing] = fall
        self.heard = (*self.heard, (thing, fall))
        self._tell()
        return turn

    def end(self):
        """Makes the kept things that were never live, and returns the plain form of what is left, put right."""
        if len(self._falls) < len(self.net.looked):
            raise Misfit("end")
        self._make(mask_of(self.net.kept))
        self._tell()
        row = place_row(self._row, [self._places.index(thing) for thing in self.net.kept])
        return plain_row(righted_row(row, self.net, self._rules, self._falls))

    def _want_ready(self, thing):
        """Raises Twice for a thing that was looked at, Misfit for one that is not ready."""
        if thing in self._falls:
            raise Twice(thing)
        if thing not in self.ready():
            raise Misfit("thing")

    def _turn_now(self, thing):
        """The turn now of a thing that waits for none that was not looked at."""
        return turn_by(self._turns[thing], self._rules[thing], self._falls)

    def _make(self, wanted):
        """Makes the things of a mask that were never live: TooMany before anything is made."""
        fresh = things_of(wanted & ~self._made)
        if len(self._places) + len(fresh) > MOST:
            raise TooMany("live", MOST)
        row = self._row
        for thing in fresh:
            row = made_row(row, self._places, thing, self._near)
            self._places.append(thing)
        self._row = row
        self._made = self._made | wanted
        self.most = max(self.most, len(self._places))

    def _tell(self):
        """Tells what is live now."""
        self.live = tuple(sorted(self._places))
        self.length = length_of_row(self._row)
