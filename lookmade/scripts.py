"""Scripts: lines that are told to a new desk, one behind another."""

from lookmade.checks import is_list
from lookmade.desk import Desk
from lookmade.errors import BadLine, BadText, LookError


def played(wires, lines):
    """The answers of a new Desk that is told these lines."""
    desk = Desk(wires)
    if not is_list(lines) or not all([isinstance(line, str) for line in lines]):
        raise BadText(0, 0)
    answers = []
    for at, line in enumerate(lines):
        try:
            answers.append(desk.tell(line))
        except LookError as error:
            raise BadLine(at, error) from error
    return tuple(answers)
