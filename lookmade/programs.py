"""Programs: deeds on wires, what they are led back to, and how they are put together."""

from lookmade.checks import is_list, is_lot, is_within
from lookmade.deeds import WIRES, led_back, moved, read_deed
from lookmade.errors import BadProgram, BadText, Misfit, TooMany
from lookmade.papers import fixed
from lookmade.texts import read_end, read_integer, read_word, rows_of

MOST_WIRES = 8
MOST_DEEDS = 200


def want_wires(value):
    """Raises BadProgram for no number of wires."""
    if not is_within(value, 1, MOST_WIRES):
        raise BadProgram("wires")


def is_deed(value, wires):
    """Whether it is a deed of a program of so many wires."""
    want_wires(wires)
    if not is_list(value) or len(value) == 0:
        return False
    word = value[0]
    if not isinstance(word, str) or word not in WIRES:
        return False
    many = WIRES[word]
    told, behind = value[1:many + 1], value[many + 1:]
    if len(told) != many or not is_lot(told) or max(told) >= wires:
        return False
    if word == "turn":
        return len(behind) == 1 and is_within(behind[0], 1, 7)
    return len(behind) == 0


def are_deeds(value, wires):
    """Whether it is a list of deeds of a program of so many wires, and no longer than one may be."""
    return is_list(value) and len(value) <= MOST_DEEDS and all([is_deed(deed, wires) for deed in value])


class Program:
    """Deeds, done one behind another to a spread with a place for each wire."""

    def __init__(self, wires, deeds):
        want_wires(wires)
        if not are_deeds(deeds, wires):
            raise BadProgram("deeds")
        self.wires = wires
        self.deeds = fixed(deeds)

    def __eq__(self, other):
        return isinstance(other, Program) and self.wires == other.wires and self.deeds == other.deeds

    def __str__(self):
        rows = [" ".join([str(item) for item in deed]) for deed in self.deeds]
        return "\n".join([f"wires {self.wires}", *rows])

    @staticmethod
    def read(text):
        """The program whose text this is."""
        rows = rows_of(text)
        read_word(rows, 0, "wires")
        wires = read_integer(rows, 0, 1, 1, MOST_WIRES)
        read_end(rows, 0, 2)
        deeds = []
        for line in range(1, len(rows)):
            if len(deeds) == MOST_DEEDS:
                raise BadText(line, 0)
            deeds.append(read_deed(rows, line, wires))
        return Program(wires, deeds)


def want_program(value, part):
    """Raises BadProgram for what is no program."""
    if not isinstance(value, Program):
        raise BadProgram(part)


def want_room(many):
    """Raises TooMany for more deeds than a program may have."""
    if many > MOST_DEEDS:
        raise TooMany("deeds", MOST_DEEDS)


def basic_deeds(program):
    """The list of the turns, mixes and signs that its deeds are led back to, however many."""
    found = []
    for deed in program.deeds:
        found.extend(led_back(deed))
    return found


def basic(program):
    """The program of the turns, mixes and signs that its deeds are led back to."""
    want_program(program, "program")
    deeds = basic_deeds(program)
    want_room(len(deeds))
    return Program(program.wires, deeds)


def odd_turns(program):
    """How many of the deeds that its deeds are led back to are odd turns."""
    want_program(program, "program")
    return len([deed for deed in basic_deeds(program) if deed[0] == "turn" and deed[2] % 2 == 1])


def undone_deed(deed):
    """The deed that undoes a deed."""
    if deed[0] == "turn":
        return ("turn", deed[1], 8 - deed[2])
    return deed


def undone(program):
    """The program that undoes this one."""
    want_program(program, "program")
    return Program(program.wires, [undone_deed(deed) for deed in reversed(program.deeds)])


def joined(one, other):
    """The program that does the deeds of one, then those of other."""
    want_program(one, "one")
    want_program(other, "other")
    if one.wires != other.wires:
        raise Misfit("wires")
    want_room(len(one.deeds) + len(other.deeds))
    return Program(one.wires, one.deeds + other.deeds)


def aside(one, other):
    """The program of both, the wires of other being numbered on behind those of one."""
    want_program(one, "one")
    want_program(other, "other")
    wires = one.wires + other.wires
    if wires > MOST_WIRES:
        raise TooMany("wires", MOST_WIRES)
    want_room(len(one.deeds) + len(other.deeds))
    behind = tuple(range(one.wires, wires))
    return Program(wires, one.deeds + tuple([moved(deed, behind) for deed in other.deeds]))
