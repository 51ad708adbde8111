"""Nets: things tied by strings, some of them given, some kept, all others looked at by turns of their own."""

from lookmade.checks import is_list, is_lot, is_turn, is_within
from lookmade.errors import BadNet, BadNumber, Misfit, TooMany
from lookmade.net_texts import read_net
from lookmade.papers import fixed
from lookmade.wanted import want_number

MOST = 120


def are_things(value, things):
    """Whether it is a list of unlike things of a net of so many."""
    return is_lot(value) and all([thing < things for thing in value])


def are_strings(value, things):
    """Whether it is a list of pairs of unlike things, each pair once, either way round."""
    if not is_list(value):
        return False
    seen = set()
    for pair in value:
        if not are_things(pair, things) or len(pair) != 2:
            return False
        string = (min(pair), max(pair))
        if string in seen:
            return False
        seen.add(string)
    return True


def pairs_of(value):
    """The pairs of a dict; any other value stays."""
    return list(value.items()) if isinstance(value, dict) else value


def are_turns(value, looked):
    """Whether it is a list of pairs (thing, turn), or a dict, that has just these things, each once."""
    pairs = pairs_of(value)
    if not is_list(pairs):
        return False
    for pair in pairs:
        if not is_list(pair) or len(pair) != 2 or not is_within(pair[0], 0, None) or not is_turn(pair[1]):
            return False
    return sorted([pair[0] for pair in pairs]) == list(looked)


class Net:
    """Things, strings between them, what is given, what is kept, and the turns of all others."""

    def __init__(self, things, strings, given, kept, turns):
        if not is_within(things, 1, MOST):
            raise BadNet("things")
        if not are_strings(strings, things):
            raise BadNet("strings")
        if not are_things(given, things):
            raise BadNet("given")
        if not are_things(kept, things):
            raise BadNet("kept")
        looked = tuple([thing for thing in range(things) if thing not in kept])
        if not are_turns(turns, looked):
            raise BadNet("turns")
        self.things = things
        self.strings = tuple(sorted([(min(pair), max(pair)) for pair in strings]))
        self.given = fixed(given)
        self.kept = fixed(kept)
        self.turns = tuple(sorted([tuple(pair) for pair in pairs_of(turns)]))
        self.looked = looked

    def __eq__(self, other):
        return (
            isinstance(other, Net)
            and self.things == other.things
            and self.strings == other.strings
            and self.given == other.given
            and self.kept == other.kept
            and self.turns == other.turns
        )

    def __str__(self):
        rows = [("things", self.things), ("given", *self.given), ("kept", *self.kept)]
        strings = [("string", low, high) for low, high in self.strings]
        turns = [("turn", thing, turn) for thing, turn in self.turns]
        return "\n".join([" ".join([str(item) for item in row]) for row in [*rows, *strings, *turns]])

    @staticmethod
    def read(text):
        """The net whose text this is."""
        things, strings, given, kept, turns = read_net(text, MOST)
        return Net(things, strings, given, kept, turns)


def want_net(value, part):
    """Raises BadNet for what is no net."""
    if not isinstance(value, Net):
        raise BadNet(part)


def want_thing(value, part, net):
    """Raises BadNumber for what is no thing of the net."""
    want_number(value, part, 0, net.things - 1)


def want_looked(value, part, net):
    """Raises BadNumber for what is none of the looked-at things of the net."""
    want_thing(value, part, net)
    if value in net.kept:
        raise BadNumber(part)


def is_order(value, net):
    """Whether it is an order of the net: a list of its looked-at things, each once."""
    return is_lot(value) and sorted(value) == list(net.looked)


def near_things(net):
    """For each thing of the net the list of its neighbours, ascending."""
    found = [[] for _ in range(net.things)]
    # Strings ascend, so those to lesser neighbours of a thing come before those to greater ones, each kind in order.
    for low, high in net.strings:
        found[low].append(high)
        found[high].append(low)
    return found


def neighbours(net, thing):
    """The neighbours of a thing, ascending."""
    want_net(net, "net")
    want_thing(thing, "thing", net)
    return tuple(near_things(net)[thing])


def oddly_met(net, lot):
    """The things that a lot of things meets oddly, ascending."""
    want_net(net, "net")
    if not are_things(lot, net.things):
        raise BadNumber("lot")
    counts = [0 for _ in range(net.things)]
    near = near_things(net)
    for thing in lot:
        for neighbour in near[thing]:
            counts[neighbour] += 1
    return tuple([thing for thing, count in enumerate(counts) if count % 2 == 1])


def turn_of(net, thing):
    """The turn of a looked-at thing."""
    want_net(net, "net")
    want_thing(thing, "thing", net)
    if thing in net.kept:
        raise Misfit("thing")
    return net.turns[net.looked.index(thing)][1]


def with_turns(net, turns):
    """The net that is like this one, but for its turns."""
    want_net(net, "net")
    return Net(net.things, net.strings, net.given, net.kept, turns)


def renamed_strings(net, names):
    """The strings of the net, names[k] being in the place of thing k."""
    return [(min(names[low], names[high]), max(names[low], names[high])) for low, high in net.strings]


def renamed_turns(net, names):
    """The turns of the net, names[k] being in the place of thing k."""
    return tuple([(names[thing], turn) for thing, turn in net.turns])


def joined_names(one, other):
    """The list of the numbers that the things of other have in the net of one and other, joined."""
    names = []
    fresh = one.things
    for thing in range(other.things):
        if thing in other.given:
            names.append(one.kept[other.given.index(thing)])
        else:
            names.append(fresh)
            fresh = fresh + 1
    return names


def joined_nets(one, other):
    """The net of two, the kept things of one being the given ones of other."""
    want_net(one, "one")
    want_net(other, "other")
    if len(one.kept) != len(other.given):
        raise Misfit("wires")
    things = one.things + other.things - len(other.given)
    if things > MOST:
        raise TooMany("things", MOST)
    names = joined_names(one, other)
    strings = sorted(set(one.strings) ^ set(renamed_strings(other, names)))
    kept = [names[thing] for thing in other.kept]
    return Net(things, strings, one.given, kept, one.turns + renamed_turns(other, names))


def aside_nets(one, other):
    """The net of two that have nothing in common, the things of one first."""
    want_net(one, "one")
    want_net(other, "other")
    things = one.things + other.things
    if things > MOST:
        raise TooMany("things", MOST)
    names = list(range(one.things, things))
    strings = [*one.strings, *renamed_strings(other, names)]
    given = [*one.given, *[names[thing] for thing in other.given]]
    kept = [*one.kept, *[names[thing] for thing in other.kept]]
    return Net(things, strings, given, kept, one.turns + renamed_turns(other, names))
