"""Bricks: programs put into the columns of walls, each brick by its words."""

from lookmade.checks import is_list, is_turn
from lookmade.deeds import LED, moved
from lookmade.errors import BadProgram, Misfit, TooMany
from lookmade.papers import fixed
from lookmade.programs import want_program
from lookmade.walls import COLUMNS, pairs_in, wall_net, want_columns, want_few

NONE = (0, 0, 0, 0)
MIX = (2, 2, 2, 0)
# The words of an under: for the wire that rules, and for the one that is exchanged.
ONE = (2, 0, 0, 0)
OTHER = (0, 2, 0, 6)


def steps_of(deed):
    """The deeds that a deed is made of, none for a brick."""
    word = deed[0]
    if word == "sign":
        _, one, other = deed
        return [("mix", other), ("under", one, other), ("mix", other)]
    if word == "under":
        _, one, other = deed
        if abs(one - other) == 1:
            return []
        near = one + 1 if other > one else one - 1
        return [("swap", one, near), ("under", near, other), ("swap", one, near)]
    return [moved(step, deed[1:]) for step in LED.get(word, ())]


def bricks_for(deeds):
    """The list of the bricks of which deeds are made, one behind another."""
    found = []
    for deed in deeds:
        steps = steps_of(deed)
        found.extend(bricks_for(steps) if steps else [deed])
    return found


def can_stand(brick, wires, column):
    """Whether a brick can stand in a column of a wall of so many wires."""
    if brick[0] != "under":
        return True
    return (min(brick[1:]), max(brick[1:])) in pairs_in(wires, column)


def wires_in(brick):
    """The wires of a brick."""
    return brick[1:] if brick[0] == "under" else brick[1:2]


def columns_for(bricks, wires):
    """The list of the columns of bricks on so many wires, however many."""
    free = [0 for _ in range(wires)]
    found = []
    for brick in bricks:
        column = max([free[wire] for wire in wires_in(brick)])
        if not can_stand(brick, wires, column):
            column = column + 1
        for wire in wires_in(brick):
            free[wire] = column + 1
        found.append(column)
    return found


def want_wires(program):
    """Raises Misfit for a program on fewer or more wires than a wall has."""
    if program.wires < 2 or program.wires > 4:
        raise Misfit("wires")


def bricks_of(program):
    """The bricks of a program."""
    want_program(program, "program")
    want_wires(program)
    return tuple(bricks_for(program.deeds))


def columns_of(program):
    """The columns of the bricks of a program."""
    return tuple(columns_for(bricks_of(program), program.wires))


def words_for(brick):
    """The pairs of a wire and its word that a brick has."""
    if brick[0] == "under":
        return [(brick[1], ONE), (brick[2], OTHER)]
    return [(brick[1], MIX if brick[0] == "mix" else (brick[2], 0, 0, 0))]


def words_of(program, columns):
    """For each of so many columns the words of all wires."""
    want_program(program, "program")
    want_columns(columns, "columns")
    want_wires(program)
    bricks = bricks_for(program.deeds)
    places = columns_for(bricks, program.wires)
    if any([place >= columns for place in places]):
        raise TooMany("columns", columns)
    found = [[NONE for _ in range(program.wires)] for _ in range(columns)]
    for brick, column in zip(bricks, places):
        for wire, word in words_for(brick):
            found[column][wire] = word
    return fixed(found)


def wall_of(program, columns):
    """The wall with the words of a program as turns."""
    words = words_of(program, columns)
    want_few(program.wires, columns)
    turns = [word[at] for column in words for at in range(4) for word in column]
    return wall_net(program.wires, columns, turns)


def are_words(value):
    """Whether it is a list of 1 to 14 lists of as many lists of four turns each, 2 to 4."""
    if not is_list(value) or len(value) < 1 or len(value) > COLUMNS or not all([is_list(column) for column in value]):
        return False
    many = len(value[0])
    if many < 2 or many > 4 or not all([len(column) == many for column in value]):
        return False
    words = [word for column in value for word in column]
    return all([is_list(word) and len(word) == 4 and all([is_turn(turn) for turn in word]) for word in words])


def partners_in(wires, column):
    """A dict from each wire that a column pairs to the other one of its pair."""
    found = {}
    for low, high in pairs_in(wires, column):
        found[low] = high
        found[high] = low
    return found


def brick_at(wire, words, partners):
    """The list of the brick whose word a wire has, of none for the word of none; None if no brick has it so."""
    word = words[wire]
    near = words[partners[wire]] if wire in partners else NONE
    if word == ONE and near == OTHER:
        return [("under", wire, partners[wire])]
    if word == OTHER:
        return [("under", partners[wire], wire)] if near == ONE else None
    if word == NONE:
        return []
    if word == MIX:
        return [("mix", wire)]
    return [("turn", wire, word[0])] if word[1:] == NONE[1:] else None


def bricks_in(words):
    """The bricks of words, columns ascending, in a column by their least wires."""
    if not are_words(words):
        raise BadProgram("words")
    found = []
    for column, told in enumerate(fixed(words)):
        partners = partners_in(len(told), column)
        for wire in range(len(told)):
            bricks = brick_at(wire, told, partners)
            if bricks is None:
                raise BadProgram("words")
            # An under is met at both its wires, and told at the least one.
            found.extend([brick for brick in bricks if min(wires_in(brick)) == wire])
    return tuple(found)
