"""What the document tells of nets, lots and runs, found the long way: by trial of all, and by counting."""

from itertools import combinations, product

from helpers import Steps, threaded_net
from lookmade.lots import Lots, has_lots, lots_of
from lookmade.nets import Net

ZERO = (0, 0, 0, 0)


def add(one, other):
    return tuple(a + b for a, b in zip(one, other))


def turned(amount, many):
    for _ in range(many % 8):
        amount = (-amount[3], *amount[:3])
    return amount


def length(spread):
    p = sum(a * a + b * b + c * c + d * d for a, b, c, d in spread)
    return (p, sum(a * b + b * c + c * d - d * a for a, b, c, d in spread))


def all_bits(things):
    """All dicts of bits of the things; the first thing's bit changes fastest."""
    things = list(things)
    for bits in product((0, 1), repeat=len(things)):
        yield dict(zip(things, bits[::-1]))


def number(bits, things):
    return sum(bits[thing] << place for place, thing in enumerate(things))


def left_of(net, spread, made, turns, left):
    """The spread of the things told by left when all made things were tied, and those of turns were looked at.

    turns are pairs (thing, whole turn), the fall being four of it. All is added over the bits of all that is gone.
    """
    ties = [string for string in net.strings if set(string) <= set(made)]
    found = []
    for bits in all_bits(left):
        amount = ZERO
        for gone in all_bits([thing for thing, _ in turns]):
            whole = {**bits, **gone}
            told = spread[number(whole, net.given)]
            turn = sum(turn for thing, turn in turns if whole[thing])
            turn += sum(4 for one, other in ties if whole[one] and whole[other])
            amount = add(amount, turned(tuple(told), turn))
        found.append(amount)
    return tuple(found)


def near(net, thing):
    return {one + other - thing for one, other in net.strings if thing in (one, other)}


def met(net, lot):
    """The set of what a lot meets oddly, by counting."""
    return {thing for thing in range(net.things) if len(near(net, thing) & set(lot)) % 2 == 1}


def subsets(things):
    things = sorted(things)
    return [lot for many in range(len(things) + 1) for lot in combinations(things, many)]


def right_lots(net, thing, later):
    """All right lots of a thing if these looked things, a set, are in later layers."""
    fine = set(net.kept) | set(later)
    return [lot for lot in subsets(fine - set(net.given)) if met(net, lot) - fine == {thing}]


def are_right(net, layers, lots):
    """Whether lots, a dict, are right for layers that have each looked thing once, by counting."""
    for at, layer in enumerate(layers):
        later = {thing for row in layers[at + 1:] for thing in row}
        for thing in layer:
            if tuple(sorted(lots[thing])) not in right_lots(net, thing, later):
                return False
    return True


def rounds(net):
    """The layers by trial of all lots, round by round from the end, and what is left."""
    layers, done, left = [], set(), set(net.looked)
    while left:
        layer = [thing for thing in sorted(left) if right_lots_among(net, thing, done, left)]
        if not layer:
            break
        layers.insert(0, tuple(layer))
        done |= set(layer)
        left -= set(layer)
    return tuple(layers), tuple(sorted(left))


def right_lots_among(net, thing, done, left):
    fit = (done | set(net.kept)) - set(net.given)
    return [lot for lot in subsets(fit) if met(net, lot) & left == {thing}]


def all_layers(things):
    """All rows of layers that have each of the things once, none empty."""
    things = tuple(things)
    if not things:
        return [()]
    found = []
    for first in subsets(things):
        if first:
            found += [(first, *rest) for rest in all_layers([thing for thing in things if thing not in first])]
    return found


def some_lots(steps, net, layers):
    """Right lots for the layers that look drawn, as a list of pairs; None if there are none."""
    found = []
    for at, layer in enumerate(layers):
        later = {thing for row in layers[at + 1:] for thing in row}
        for thing in layer:
            lots = right_lots(net, thing, later)
            if not lots:
                return None
            found.append((thing, lots[steps.below(len(lots))]))
    return sorted(found)


def is_even_for(net, some, watching):
    """Whether each of those watching that was not given has an even number of neighbours among some."""
    return all(len(near(net, thing) & set(some)) % 2 == 0 for thing in watching if thing not in net.given)


def waited(net, lots, thing):
    """The pair of those that exchange a thing and those that sign it; lots are a dict."""
    exchanging = [one for one in sorted(lots) if thing in lots[one]]
    return (tuple(exchanging), tuple(one for one in sorted(lots) if one != thing and thing in met(net, lots[one])))


def turn_now(net, lots, thing, falls):
    """The turn now of a looked thing, by the falls, a dict, of those that it waits for."""
    exchanging, signing = waited(net, lots, thing)
    turn = dict(net.turns)[thing]
    if sum(falls[one] for one in exchanging) % 2:
        turn = 8 - turn
    if sum(falls[one] for one in signing) % 2:
        turn += 4
    return turn % 8


def orders(net, lots):
    """All orders that are let; lots are a dict."""
    before = {thing: set(sum(waited(net, lots, thing), ())) for thing in net.looked}

    def on(order):
        if len(order) == len(net.looked):
            return [order]
        ready = [thing for thing in net.looked if thing not in order and before[thing] <= set(order)]
        return [found for thing in ready for found in on((*order, thing))]

    return on(())


def drawn_papers(start, many, most=5):
    """Nets with right Lots that look drawn, of the latest layers and of others."""
    steps = Steps(start)
    for at in range(many):
        net = threaded_net(steps, 1 + at % 3, most)
        if not has_lots(net):
            continue
        yield net, lots_of(net)
        rows = all_layers(net.looked) if len(net.looked) <= 3 else [[(thing,) for layer in lots_of(net).layers for thing in layer]]
        layers = rows[steps.below(len(rows))]
        lots = some_lots(steps, net, layers)
        if lots is not None:
            yield net, Lots(layers, lots)


def can_quarter(net, thing):
    """Whether a thing can go by a quarter, by the document's words."""
    return (thing not in net.given and thing not in net.kept and dict(net.turns)[thing] in (2, 6)
            and not near(net, thing) & set(net.kept) and net.things > 1)


def can_pair(net, one, other):
    """Whether two things can go as a pair, by the document's words."""
    return (other in near(net, one)
            and all(thing not in net.given and thing not in net.kept and dict(net.turns)[thing] in (0, 4)
                    and not near(net, thing) & set(net.kept) for thing in (one, other)) and net.things > 2)


def behind(net, gone, toggled, grown):
    """The net without what is gone, with strings toggled and turns grown, numbered anew."""
    strings = {frozenset(string) for string in net.strings}
    for string in toggled:
        strings ^= {frozenset(string)}
    turns = {thing: (turn + grown.get(thing, 0)) % 8 for thing, turn in net.turns if thing not in gone}
    left = [thing for thing in range(net.things) if thing not in gone]
    names = {thing: at for at, thing in enumerate(left)}
    return Net(len(left), [tuple(names[thing] for thing in string) for string in strings if not string & set(gone)],
               [names[thing] for thing in net.given], [names[thing] for thing in net.kept],
               {names[thing]: turn for thing, turn in turns.items()})


def behind_quarter(net, thing):
    """The net behind a quarter, by the document's words."""
    grown = {2: 6, 6: 2}[dict(net.turns)[thing]]
    return behind(net, [thing], combinations(near(net, thing), 2), dict.fromkeys(near(net, thing), grown))


def behind_pair(net, one, other):
    """The net behind a pair, by the document's words."""
    turns = dict(net.turns)
    first, second = near(net, one) - {other}, near(net, other) - {one}
    sorts = {thing: (thing in first, thing in second) for thing in first | second}
    toggled = [(a, b) for a, b in combinations(sorted(sorts), 2) if sorts[a] != sorts[b]]
    grown = {(True, False): turns[other], (False, True): turns[one], (True, True): turns[one] + turns[other] + 4}
    return behind(net, [one, other], toggled, {thing: grown[sort] for thing, sort in sorts.items()})


def all_steps(net):
    """All steps that can be done, the quarters first, each kind ascending."""
    quarters = [("quarter", thing) for thing in range(net.things) if can_quarter(net, thing)]
    return quarters + [("pair", *two) for two in combinations(range(net.things), 2) if can_pair(net, *two)]


def behind_step(net, step):
    return behind_quarter(net, step[1]) if step[0] == "quarter" else behind_pair(net, *step[1:])


def lessened(net, choose):
    """The steps until nothing can go, and the net behind them; choose takes one of the steps that can be done."""
    steps = []
    while all_steps(net):
        step = choose(all_steps(net))
        net = behind_step(net, step)
        steps.append(step)
    return tuple(steps), net


def ungiven(start, many, most=5):
    """Nets that look drawn, of which nothing is given, with right Lots."""
    for net, paper in drawn_papers(start, many, most):
        yield Net(net.things, net.strings, [], net.kept, net.turns), paper


def read_behind(net, lots, thing):
    """The pair of those that exchange a thing, none for a kept one, and those that sign it; lots are a dict."""
    exchanging, signing = waited(net, lots, thing)
    return ((), signing) if thing in net.kept else (exchanging, signing)


def told_turn(net, lots, secrets, thing, truth):
    """The turn that an asker tells for a thing, truth having the true falls of those that it waits for."""
    exchanging, signing = read_behind(net, lots, thing)
    turn, bit = secrets[thing]
    now = dict(net.turns).get(thing, 0)
    if sum(truth[other] for other in exchanging) % 2:
        now = 8 - now
    if sum(truth[other] for other in signing) % 2:
        now += 4
    return (now - turn + 4 * bit) % 8


def asked_orders(net, lots):
    """All orders of all things, kept ones too, in which an asker may hear them."""
    before = [set(sum(read_behind(net, lots, thing), ())) for thing in range(net.things)]

    def on(order):
        if len(order) == net.things:
            return [order]
        ready = [thing for thing in range(net.things) if thing not in order and before[thing] <= set(order)]
        return [found for thing in ready for found in on((*order, thing))]

    return on(())
