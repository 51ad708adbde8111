"""Lines of a desk, read item by item."""

from lookmade.deeds import WIRES, read_deed
from lookmade.errors import BadText
from lookmade.texts import read_end, read_integer

# For each line that is no deed the greatest number that each item behind its word may be; a net has bits.
MOST = {
    "net": (),
    "lesser": (),
    "look": (119, 1),
    "undo": (),
    "again": (),
    "log": (),
    "program": (),
    "ready": (),
    "ask": (119,),
    "live": (),
    "end": (),
    "picture": (),
    "course": (),
}


def read_line(line, wires):
    """The word of a line of a desk with so many wires, and its numbers: BadText for what is no such line."""
    if not isinstance(line, str):
        raise BadText(0, 0)
    # A line feed stands within an item, and no item that can stand has one.
    rows = [line.split(" ")]
    word = rows[0][0]
    if word in WIRES:
        return read_deed(rows, 0, wires)
    if word not in MOST:
        raise BadText(0, 0)
    bounds = [1 for _ in range(wires)] if word == "net" else MOST[word]
    told = [read_integer(rows, 0, at + 1, 0, most) for at, most in enumerate(bounds)]
    read_end(rows, 0, len(told) + 1)
    return (word, *told)
