"""Texts read item by item: BadText tells the first line and item that cannot stand."""

from lookmade.errors import BadText

DIGITS = "0123456789"
LONGEST = 60


def rows_of(text):
    """The lines of a text, each as the list of its items: BadText(0, 0) for what is no string."""
    if not isinstance(text, str):
        raise BadText(0, 0)
    return [line.split(" ") for line in text.split("\n")]


def integer_in(item):
    """The integer that an item writes, None if it is not the way to write one."""
    digits = item[1:] if item.startswith("-") else item
    # Asked before int(..), which does not take thousands of digits, but takes digits of other scripts.
    if len(digits) == 0 or len(digits) > LONGEST or not all([mark in DIGITS for mark in digits]):
        return None
    if digits.startswith("0") and item != "0":
        return None
    return int(item)


def read_item(rows, line, item):
    """The item, which may be missing; all items of the line before it are there."""
    if line >= len(rows):
        raise BadText(len(rows), 0)
    if item >= len(rows[line]):
        raise BadText(line, item)
    return rows[line][item]


def read_word(rows, line, word):
    """Reads just this word at the beginning of a line."""
    if read_item(rows, line, 0) != word:
        raise BadText(line, 0)


def read_integer(rows, line, item, least, most):
    """The integer from least to most that the item writes."""
    number = integer_in(read_item(rows, line, item))
    if number is None or number < least or number > most:
        raise BadText(line, item)
    return number


def read_end(rows, line, many):
    """Reads that a line has no more than so many items."""
    if len(rows[line]) > many:
        raise BadText(line, many)
