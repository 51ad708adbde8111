"""Pictures of nets with their layers, and courses of looks."""

from lookmade.check_lots import want_lots
from lookmade.errors import Misfit
from lookmade.nets import near_things, want_net
from lookmade.runs import want_heard
from lookmade.waits import follows, ruling, turn_by, waited_for


def signs_of(net, layers, thing):
    """A sign for each layer, and one more for the end: the turn of a looked thing, or that it is kept."""
    turn = dict(net.turns).get(thing)
    signs = [str(turn) if thing in layer else "." for layer in layers]
    return "".join([*signs, "=" if thing in net.kept else "."])


def picture(net, paper):
    """The rows of the picture, one for each thing."""
    want_net(net, "net")
    want_lots(paper, "paper", net)
    rows = []
    for thing, near in enumerate(near_things(net)):
        given = ">" if thing in net.given else "-"
        ties = " ".join([str(other) for other in near]) if near else "-"
        rows.append(f"{thing} {signs_of(net, paper.layers, thing)} {given} {ties}")
    return tuple(rows)


def course(net, paper, heard):
    """The rows of the course of some looks, which fell as pairs (thing, fall) tell."""
    want_net(net, "net")
    want_lots(paper, "paper", net)
    want_heard(heard, "heard", net)
    rules = ruling(net, paper.lots)
    if not follows([thing for thing, _ in heard], waited_for(rules)):
        raise Misfit("heard")
    turns = dict(net.turns)
    falls = {thing: fall for thing, fall in heard}
    rows = []
    for thing, fall in heard:
        now = turn_by(turns[thing], rules[thing], falls)
        rows.append(f"{thing} turn {turns[thing]} now {now} fall {fall}")
    return tuple(rows)
