"""Scripts: the answers of a desk that is told their lines, and the first line that raises."""

import unittest

from helpers import Oddity, Steps, odd_values, raised
from lookmade.desk import Desk
from lookmade.errors import BadLine, BadText, LookError, Misfit, Nothing, TooMany, Twice
from lookmade.scripts import played
from test_desk import OwnDesk, drawn_line, told

LINES = ["mix 0", "under 0 1", "net 0 1", "look 0 1", "undo", "again", "look 1 0", "ask 3", "look 3 1", "end", "course", "log"]


def caught(wires, lines):
    """What a script raises."""
    try:
        played(wires, lines)
    except LookError as error:
        return error
    return None


class PlayedTest(unittest.TestCase):
    def test_as_a_desk(self):
        for lines in (LINES, tuple(LINES), [], ()):
            desk = Desk(2)
            self.assertEqual(played(2, lines), tuple(desk.tell(line) for line in lines))
        self.assertIsInstance(played(2, LINES), tuple)
        self.assertEqual(played(lines=["log"], wires=8), ("-",))

    def test_drawn(self):
        steps = Steps(171)
        kinds = set()
        for at in range(60):
            wires, own, lines = 1 + at % 3, OwnDesk(1 + at % 3), []
            for _ in range(30):
                lines.append(drawn_line(steps, wires, own))
                answer = told(own, lines[-1])
                if isinstance(answer, tuple):
                    break
            desk = Desk(wires)
            answers = [told(desk, line) for line in lines]
            error = caught(wires, lines)
            if isinstance(answer, tuple):
                self.assertIs(type(error), BadLine)
                self.assertEqual(error.line, len(lines) - 1)
                self.assertEqual((type(error.error).__name__, *vars(error.error).values()), answer)
                kinds.add(answer[0])
                lines, answers = lines[:-1], answers[:-1]
            self.assertEqual(played(wires, lines), tuple(answers))
        self.assertGreater(len(kinds), 2)

    def test_each_error(self):
        for wrong, made, fields in (("mix 9", BadText, {"line": 0, "item": 1}), ("again ", BadText, {"line": 0, "item": 1}),
                                    ("mix 0", Misfit, {"part": "net"}), ("look 0 0", Twice, {"value": 0}),
                                    ("lesser", Misfit, {"part": "looked"}), ("\n", BadText, {"line": 0, "item": 0})):
            for at in (4, 7, 9, len(LINES)):
                error = caught(2, [*LINES[:at], wrong, "mix 9", *LINES[at:]])
                self.assertIs(type(error), BadLine)
                self.assertEqual((error.line, type(error.error), vars(error.error)), (at, made, fields))

    def test_first_middle_and_last(self):
        for at in range(len(LINES) + 1):
            lines = [*LINES[:at], "mix 2", *LINES[at:]]
            for told_lines in (lines, lines[:at + 1], [*lines, "mix 3", "x"]):
                error = caught(2, told_lines)
                self.assertIs(type(error), BadLine)
                self.assertEqual((error.line, type(error.error), vars(error.error)), (at, BadText, {"line": 0, "item": 1}))

    def test_errors_without_fields(self):
        for line in ("undo", "again"):
            error = caught(1, [line])
            self.assertEqual((error.line, type(error.error), vars(error.error)), (0, Nothing, {}))

    def test_many_lines(self):
        error = caught(1, ["turn 0 1"] * 201)
        self.assertEqual((error.line, type(error.error), vars(error.error)), (200, TooMany, {"what": "lines", "most": 200}))
        self.assertEqual(played(1, ["turn 0 1"] * 200)[-1], "200")
        self.assertEqual(played(1, ["turn 0 1", "undo"] * 300), ("1", "turn 0 1") * 300)

    def test_no_scripts(self):
        for value in (None, True, 0, "", "log", b"log", {}, {"log": 1}, {"log"}, [None], ["log", 1], ("log", b"log"), [["log"]],
                      ["log", None], [True], Oddity(), ["mix 9", 0], Desk(1)):
            self.assertEqual(raised(played, 1, value), ("BadText", 0, 0))
        for value in (*odd_values(), 0, 9, -1, 1.0):
            self.assertEqual(raised(played, value, None), ("BadNumber", "wires"))
            self.assertEqual(raised(played, value, ["log"]), ("BadNumber", "wires"))
            self.assertEqual(raised(played, value, ["mix 9"]), ("BadNumber", "wires"))

    def test_what_was_passed_stays(self):
        lines = list(LINES)
        first = played(2, lines)
        self.assertEqual((lines, played(2, lines)), (LINES, first))
        lines[3] = "mix 9"
        self.assertEqual(raised(played, 2, lines)[:2], ("BadLine", 3))
        self.assertEqual(lines, [*LINES[:3], "mix 9", *LINES[4:]])


if __name__ == "__main__":
    unittest.main()
