"""Point 5 and lookmade/meanings.py: what deeds make of spreads."""

import unittest
from itertools import product

from helpers import Steps, as_lists, odd_values, raised
from lookmade.amounts import added, length_of, turned
from lookmade.meanings import meaning, readings
from lookmade.programs import Program, basic, joined, undone
from lookmade.spreads import even, of_bits, plain_form
from test_programs import NO_PROGRAMS, deeds_on, drawn

NOTHING = (0, 0, 0, 0)


def rows_of_bits(wires):
    return [tuple(at >> wire & 1 for wire in range(wires)) for at in range(2 ** wires)]


def other_bits(row, deed):
    """The bits that a deed which moves bits makes of a row of bits."""
    bits = list(row)
    word, *on = deed
    if word == "swap":
        bits[on[0]], bits[on[1]] = bits[on[1]], bits[on[0]]
    elif all(bits[wire] for wire in on[:-1]):
        bits[on[-1]] = 1 - bits[on[-1]]
    return tuple(bits)


def after(known, deed):
    """What a deed leaves of a dict from rows of bits to amounts."""
    word, *on = deed
    if word == "turn":
        return {row: turned(amount, on[1]) if row[on[0]] else amount for row, amount in known.items()}
    if word == "sign":
        return {row: turned(amount, 4) if row[on[0]] and row[on[1]] else amount for row, amount in known.items()}
    if word == "mix":
        found = {}
        for row in known:
            x, y = (known[(*row[:on[0]], bit, *row[on[0] + 1:])] for bit in (0, 1))
            found[row] = added(x, turned(y, 4 * row[on[0]]))
        return found
    return {other_bits(row, deed): amount for row, amount in known.items()}


def meant(program, spread):
    """The meaning, told over again row by row."""
    rows = rows_of_bits(program.wires)
    known = dict(zip(rows, spread))
    for deed in program.deeds:
        known = after(known, deed)
    return plain_form([known[row] for row in rows])


class MeaningTest(unittest.TestCase):
    def test_each_deed_and_what_it_is_led_back_to(self):
        steps = Steps(17)
        for wires in range(1, 5):
            for deed in deeds_on(wires):
                program = Program(wires, [deed])
                for spread in (steps.spread(wires), steps.spread(wires, 10 ** 29)):
                    expected = meant(program, spread)
                    self.assertEqual(meaning(program, spread), expected)
                    self.assertEqual(meaning(basic(program), as_lists(spread)), expected)

    def test_each_row_of_bits(self):
        for deed in (("not", 1), ("under", 0, 2), ("under", 2, 1), ("swap", 0, 2), ("both", 0, 1, 2), ("both", 2, 0, 1)):
            program = Program(3, [deed])
            for bits in product((0, 1), repeat=3):
                self.assertEqual(meaning(program, of_bits(bits)), of_bits(other_bits(bits, deed)))

    def test_many_deeds(self):
        steps = Steps(18)
        for wires in (1, 2, 3, 5):
            for many in (0, 1, 12):
                program, spread = drawn(steps, wires, many), steps.spread(wires)
                expected = meant(program, spread)
                self.assertEqual(meaning(spread=spread, program=program), expected)
                found = tuple((at, length_of(amount)) for at, amount in enumerate(expected) if amount != NOTHING)
                self.assertEqual(readings(program, spread), found)
                self.assertEqual(readings(spread=as_lists(spread), program=program), found)
                self.assertEqual(meaning(joined(program, undone(program)), spread), plain_form(spread))

    def test_eight_wires(self):
        program = drawn(Steps(19), 8, 200)
        spread = Steps(20).spread(8)
        self.assertEqual(meaning(program, spread), meant(program, spread))
        self.assertEqual(meaning(Program(8, []), even(8)), even(8))

    def test_amounts_that_are_nothing_are_not_read(self):
        self.assertEqual(readings(Program(2, []), [NOTHING, NOTHING, (0, 0, 2, 2), (0, 0, 0, 4)]), ((2, (1, 0)), (3, (4, -2))))
        self.assertEqual(readings(Program(1, [("mix", 0)]), even(1)), ((0, (1, 0)),))

    def test_errors_in_order(self):
        program = Program(2, [("mix", 0)])
        for call in (meaning, readings):
            for bad in NO_PROGRAMS:
                self.assertEqual(raised(call, bad, even(2)), ("BadProgram", "program"))
                self.assertEqual(raised(call, bad, None), ("BadProgram", "program"))
            for bad in [*odd_values(), [NOTHING] * 4, even(2)[:3], [(1, 0, 0)] * 4, [(1, 0, 0, 0)] * 8192]:
                self.assertEqual(raised(call, program, bad), ("BadSpread", "spread"))
            for many in range(13):
                expected = None if many == 2 else ("Misfit", "wires")
                self.assertEqual(raised(call, program, even(many)), expected)

    def test_what_is_passed_stays(self):
        spread = as_lists(even(1))
        meaning(Program(1, [("mix", 0), ("turn", 0, 1)]), spread)
        self.assertEqual(spread, [[1, 0, 0, 0], [1, 0, 0, 0]])


if __name__ == "__main__":
    unittest.main()
