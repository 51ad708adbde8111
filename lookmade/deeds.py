"""Deeds of programs that are known to be right, and what each of them is led back to."""

from lookmade.errors import BadText
from lookmade.texts import read_end, read_integer, read_item

# How many wires stand behind each word; behind the wire of a turn stands the turn.
WIRES = {"turn": 1, "mix": 1, "sign": 2, "not": 1, "under": 2, "swap": 2, "both": 3}

# A number in the place of a wire tells which of the deed's own wires it is.
LED = {
    "not": (("mix", 0), ("turn", 0, 4), ("mix", 0)),
    "under": (("mix", 1), ("sign", 0, 1), ("mix", 1)),
    "swap": (("under", 0, 1), ("under", 1, 0), ("under", 0, 1)),
    "both": (
        ("mix", 2),
        ("turn", 0, 1),
        ("turn", 1, 1),
        ("turn", 2, 1),
        ("under", 0, 1),
        ("turn", 1, 7),
        ("under", 1, 2),
        ("turn", 2, 1),
        ("under", 0, 2),
        ("turn", 2, 7),
        ("under", 1, 2),
        ("turn", 2, 7),
        ("under", 0, 2),
        ("under", 0, 1),
        ("mix", 2),
    ),
}


def moved(deed, wires):
    """The deed on other wires: wires[k] in the place of wire k."""
    behind = WIRES[deed[0]] + 1
    return deed[:1] + tuple([wires[wire] for wire in deed[1:behind]]) + deed[behind:]


def led_back(deed):
    """The list of the turns, mixes and signs that the deed is led back to."""
    if deed[0] not in LED:
        return [deed]
    found = []
    for step in LED[deed[0]]:
        found.extend(led_back(moved(step, deed[1:])))
    return found


def read_deed(rows, line, wires):
    """The deed that a line of a text writes, in a program of so many wires."""
    word = read_item(rows, line, 0)
    if word not in WIRES:
        raise BadText(line, 0)
    many = WIRES[word]
    told = []
    for item in range(1, many + 1):
        wire = read_integer(rows, line, item, 0, wires - 1)
        if wire in told:
            raise BadText(line, item)
        told.append(wire)
    if word == "turn":
        many = many + 1
        told.append(read_integer(rows, line, many, 1, 7))
    read_end(rows, line, many + 1)
    return (word, *told)
