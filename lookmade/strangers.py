"""Strangers: they tie and look for an asker, and are told neither turns nor why."""

from lookmade.checks import is_list, is_turn
from lookmade.errors import BadNet, BadNumber, BadSecrets, Misfit
from lookmade.nets import are_strings
from lookmade.reckoning import ONE
from lookmade.rows import length_of_row, look_row, tie_row, turn_row
from lookmade.wanted import want_bit, want_number, want_turn

MOST = 12


class Stranger:
    """Ties things that were sent, each with a turn, and looks at them as it is told."""

    def __init__(self, things, strings, sent):
        want_number(things, "things", 1, MOST)
        if not are_strings(strings, things):
            raise BadNet("strings")
        if not is_list(sent) or len(sent) != things or not all([is_turn(turn) for turn in sent]):
            raise BadSecrets("sent")
        row = tuple([ONE for _ in range(1 << things)])
        for place, turn in enumerate(sent):
            row = turn_row(row, place, turn)
        for one, other in strings:
            row = tie_row(row, one, other)
        self._row = row
        self.left = tuple(range(things))
        self.length = length_of_row(row)

    def looks(self, thing, turn, fall):
        """Looks at a thing that is left by a turn, with this fall."""
        want_number(thing, "thing", 0, None)
        if thing not in self.left:
            raise BadNumber("thing")
        want_turn(turn, "turn")
        want_bit(fall, "fall")
        row = look_row(self._row, self.left.index(thing), turn, fall)
        if row is None:
            raise Misfit("fall")
        self._row = row
        self.left = tuple([other for other in self.left if other != thing])
        self.length = length_of_row(row)
