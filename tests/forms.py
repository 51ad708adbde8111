"""What texts of programs and nets may say, told line by line, to see where a bent text cannot stand.

A line that may stand is a tuple of items; one that ends with DEAD tells that nothing may stand behind its items.
"""

from functools import lru_cache
from itertools import permutations, product

DEAD = object()
MANY = {"turn": 1, "mix": 1, "sign": 2, "not": 1, "under": 2, "swap": 2, "both": 3}
TOKENS = [
    "", "0", "1", "2", "3", "4", "5", "7", "-1", "-0", "+1", "01", "00", "1.0", "1_0", "0x1", "x", "\t", "\u0663", "\u00b2",
    "1" * 60, "1" * 61, "9" * 5000, "-" + "1" * 60, "121", "mix", "turn", "sign", "both", "wires", "things", "given",
    "kept", "string", "Turn", "mix\r",
]


def first_bad(items, lines):
    """The index of the first item by which none of the lines begins so; their number if one is missing; or None."""
    for at, item in enumerate(items):
        lines = [line for line in lines if len(line) > at and line[at] == item]
        if not lines:
            return at
    return None if any(len(line) == len(items) for line in lines) else len(items)


@lru_cache(maxsize=None)
def deed_lines(wires):
    found = []
    for word, many in MANY.items():
        for told in permutations(range(wires), min(many, wires)):
            line = (word, *map(str, told), *[DEAD] * (many > wires))
            found += [(*line, str(turn)) for turn in range(1, 8)] if word == "turn" else [line]
    return found


def bad_in_program(text):
    """Where a text of a program cannot stand, None if it can."""
    rows = [line.split(" ") for line in text.split("\n")]
    bad = first_bad(rows[0], [("wires", str(wires)) for wires in range(1, 9)])
    if bad is not None:
        return (0, bad)
    for at, row in enumerate(rows[1:], 1):
        bad = first_bad(row, deed_lines(int(rows[0][1])) if at <= 200 else [])
        if bad is not None:
            return (at, bad)
    return None


@lru_cache(maxsize=None)
def thing_lines(word, things):
    return [(word, *map(str, told)) for many in range(things + 1) for told in permutations(range(things), many)]


def string_lines(things, last):
    found = []
    for low in range(things):
        behind = [("string", str(low), str(high)) for high in range(low + 1, things) if (low, high) > last]
        found += behind or ([("string", str(low), DEAD)] if low >= last[0] else [])
    return found


def turn_lines(looked):
    return [("turn", str(thing), str(turn)) for thing in looked[:1] for turn in range(8)]


def bad_in_net(text):
    """Where a text of a net, of few things, cannot stand, None if it can."""
    rows = [line.split(" ") for line in text.split("\n")]
    bad = first_bad(rows[0], [("things", str(things)) for things in range(1, 121)])
    if bad is not None:
        return (0, bad)
    things = int(rows[0][1])
    assert things <= 7
    for at, word in ((1, "given"), (2, "kept")):
        bad = 0 if len(rows) == at else first_bad(rows[at], thing_lines(word, things))
        if bad is not None:
            return (at, bad)
    looked = [thing for thing in range(things) if str(thing) not in rows[2][1:]]
    last, turns = (0, 0), False
    for at, row in enumerate(rows[3:], 3):
        bad = first_bad(row, turn_lines(looked) + ([] if turns else string_lines(things, last)))
        if bad is not None:
            return (at, bad)
        if row[0] == "turn":
            turns, looked = True, looked[1:]
        else:
            last = (int(row[1]), int(row[2]))
    return (len(rows), 0) if looked else None


def bent_rows(row):
    """The items of a line with one of them bent, left out, doubled, exchanged, or with one put in."""
    for at, item in enumerate(row):
        yield row[:at] + row[at + 1:]
        yield row[:at] + [item, item] + row[at + 1:]
        for token in TOKENS:
            yield row[:at] + [token] + row[at + 1:]
            yield row[:at] + [token] + row[at:]
        for other in range(at):
            yield row[:other] + [item] + row[other + 1:at] + [row[other]] + row[at + 1:]
    for token in TOKENS:
        yield row + [token]


def bent_texts(text):
    """Texts that are bent in one item or line."""
    rows = [line.split(" ") for line in text.split("\n")]
    bent = []
    for at, row in enumerate(rows):
        bent.append(rows[:at] + rows[at + 1:])
        bent.append(rows[:at] + [row, row] + rows[at + 1:])
        bent += [rows[:at] + [other] + rows[at:] for other in ([""], ["mix", "0"], ["string", "0", "1"], ["turn", "0", "1"])]
        bent += [rows[:at] + [other] + rows[at + 1:] for other in bent_rows(row)]
        bent += [rows[:k] + [row] + rows[k + 1:at] + [rows[k]] + rows[at + 1:] for k in range(at)]
        bent += [rows[:at], rows[:at] + [row[:1]]]
    found = ["\n".join(" ".join(row) for row in told) for told in bent]
    return [*found, text + "\n", "\n" + text, text + " ", " " + text, text.replace("\n", "\r\n"), text.replace(" ", "  "), ""]


@lru_cache(maxsize=None)
def desk_lines(wires):
    """All lines of a desk with so many wires."""
    found = deed_lines(wires) + [("net", *bits) for bits in product("01", repeat=wires)]
    found += [("look", str(thing), fall) for thing in range(120) for fall in "01"]
    found += [("ask", str(thing)) for thing in range(120)]
    alone = "lesser undo again log program ready live end picture course"
    return found + [(word,) for word in alone.split(" ")]


def bad_in_line(line, wires):
    """Which item of a line of a desk cannot stand, None if all can."""
    return first_bad(line.split(" "), desk_lines(wires))
