"""Point 5 and lookmade/programs.py: deeds, programs, what they are led back to, how they are put together."""

import unittest
from itertools import product

from forms import bad_in_program, bent_texts
from helpers import Steps, as_lists, odd_values, raised
from lookmade.programs import Program, aside, basic, is_deed, joined, odd_turns, undone

WORDS = {"turn": 1, "mix": 1, "sign": 2, "not": 1, "under": 2, "swap": 2, "both": 3}
NO_PROGRAMS = [*odd_values(), 3, (2, ()), "wires 1", Program]
LONG = Program(1, [("mix", 0)] * 200)


def deeds_on(wires):
    """All deeds of a program of so many wires."""
    found = []
    for word, many in WORDS.items():
        for told in product(range(wires), repeat=many):
            if len(set(told)) == many:
                found += [(word, *told, turn) for turn in range(1, 8)] if word == "turn" else [(word, *told)]
    return found


def drawn(steps, wires, many):
    deeds = deeds_on(wires)
    return Program(wires, [deeds[steps.below(len(deeds))] for _ in range(many)])


class DeedTest(unittest.TestCase):
    def test_right_deeds(self):
        for wires in range(1, 9):
            for deed in deeds_on(wires):
                self.assertIs(is_deed(deed, wires), True)
                self.assertIs(is_deed(wires=wires, value=list(deed)), True)
                self.assertEqual(Program(wires, [list(deed)]).deeds, (deed,))

    def test_wires_alike_or_beyond(self):
        for wires in range(1, 9):
            for word, many in WORDS.items():
                for told in product(range(-1, wires + 1), repeat=min(many, 2)):
                    told = (*told, *range(many - len(told)))
                    deed = (word, *told, *([1] if word == "turn" else []))
                    right = len(set(told)) == many and min(told) >= 0 and max(told) < wires
                    self.assertIs(is_deed(deed, wires), right)
                    if not right:
                        self.assertEqual(raised(Program, wires, [("mix", 0), deed]), ("BadProgram", "deeds"))

    def test_turns_beyond(self):
        for turn in [*range(-3, 12), 10 ** 30]:
            self.assertIs(is_deed(("turn", 0, turn), 1), 1 <= turn <= 7)

    def test_parts_too_many_or_too_few(self):
        for deed in deeds_on(4):
            for at in range(len(deed)):
                self.assertIs(is_deed(deed[:at], 4), False)
            for more in (0, 1, 3, None, "mix"):
                self.assertIs(is_deed([*deed, more], 4), False)
        self.assertIs(is_deed((), 1), False)

    def test_parts_of_other_kinds(self):
        for deed in (("turn", 1, 2), ("mix", 0), ("sign", 0, 1), ("not", 1), ("under", 1, 0), ("both", 1, 0, 2)):
            for at in range(len(deed)):
                for bad in [*odd_values(), "Mix", "mix ", -1, 9, 10 ** 30]:
                    self.assertIs(is_deed([*deed[:at], bad, *deed[at + 1:]], 3), False)

    def test_other_values(self):
        for bad in [*odd_values(), "mix", "mix 0", 5, {"mix": 0}, ["mix 0"], [["mix"], 0], [("mix", 0)], {0: "mix", 1: 0}]:
            for wires in (1, 2, 8):
                self.assertIs(is_deed(bad, wires), False)

    def test_wires(self):
        for bad in [*odd_values(), 0, -1, 9, 10 ** 30]:
            self.assertEqual(raised(is_deed, ("mix", 0), bad), ("BadProgram", "wires"))


class ProgramTest(unittest.TestCase):
    def test_made(self):
        for wires in range(1, 9):
            program = Program(wires, [])
            self.assertEqual((program.wires, program.deeds, str(program)), (wires, (), f"wires {wires}"))
        program = Program(deeds=[["mix", 0], ("turn", 1, 7)], wires=2)
        self.assertEqual(program.deeds, (("mix", 0), ("turn", 1, 7)))
        self.assertEqual(len(LONG.deeds), 200)

    def test_wrong_wires(self):
        for bad in [*odd_values(), 0, -1, 9, 10 ** 30]:
            self.assertEqual(raised(Program, bad, []), ("BadProgram", "wires"))
            self.assertEqual(raised(Program, bad, None), ("BadProgram", "wires"))
            self.assertEqual(raised(Program, deeds=3, wires=bad), ("BadProgram", "wires"))

    def test_wrong_deeds(self):
        for bad in [*odd_values(), 3, "mix 0", {0: ("mix", 0)}, [("mix", 2)], [("mix",)], ("mix", 0)]:
            if bad not in ([], ()):
                self.assertEqual(raised(Program, 2, bad), ("BadProgram", "deeds"))
        self.assertEqual(raised(Program, 1, [("mix", 0)] * 201), ("BadProgram", "deeds"))
        for at in (0, 100, 199):
            for bad in [*odd_values(), ("mix", 1), ("sign", 0, 0)]:
                deeds = [("mix", 0)] * 200
                deeds[at] = bad
                self.assertEqual(raised(Program, 1, deeds), ("BadProgram", "deeds"))

    def test_equal(self):
        one = Program(2, [("mix", 0), ("turn", 1, 2)])
        self.assertIs(one == Program(2, (["mix", 0], ["turn", 1, 2])), True)
        self.assertIs(one != Program(2, (["mix", 0], ["turn", 1, 2])), False)
        others = [
            Program(3, one.deeds), Program(2, [("turn", 1, 2), ("mix", 0)]), Program(2, one.deeds[:1]), Program(2, []),
            Program(2, [("mix", 0), ("turn", 1, 3)]), Program(2, [("mix", 1), ("turn", 1, 2)]),
        ]
        for other in [*others, *NO_PROGRAMS, str(one), (2, one.deeds)]:
            self.assertIs(one == other, False)
            self.assertIs(other == one, False)
            self.assertIs(one != other, True)

    def test_methods_in_the_class_itself(self):
        for name in ("__init__", "__eq__", "__str__", "read"):
            self.assertIn(name, vars(Program))

    def test_what_was_passed_may_be_changed(self):
        deed = ["turn", 0, 1]
        deeds = [deed, ["mix", 1]]
        program = Program(2, deeds)
        deed[2] = 9
        deeds.append(5)
        self.assertEqual(program.deeds, (("turn", 0, 1), ("mix", 1)))


class TextTest(unittest.TestCase):
    def check(self, text):
        bad = bad_in_program(text)
        if bad is None:
            self.assertEqual(str(Program.read(text)), text)
        else:
            self.assertEqual(raised(Program.read, text), ("BadText", *bad), text)

    def test_written_and_read(self):
        steps = Steps(9)
        for wires in range(1, 9):
            for many in (0, 1, 5, 200):
                program = drawn(steps, wires, many)
                rows = [f"wires {wires}", *[" ".join(map(str, deed)) for deed in program.deeds]]
                self.assertEqual(str(program), "\n".join(rows))
                self.assertEqual(Program.read(text=str(program)), program)
                self.assertIsInstance(Program.read(str(program)), Program)

    def test_bent_texts(self):
        steps = Steps(21)
        texts = [str(Program(4, [(word, *range(many), *[5] * (word == "turn")) for word, many in WORDS.items()]))]
        texts += [str(drawn(steps, wires, 3)) for wires in (1, 2, 3, 8)] + ["wires 1", "wires 8"]
        for text in texts:
            for bent in bent_texts(text):
                self.check(bent)

    def test_two_places_bent(self):
        for text in ("wires 3\nboth 0 1 2\nturn 2 7", "wires 1\nsign 0 0"):
            for bent in bent_texts(text)[::7]:
                for more in bent_texts(bent)[::5]:
                    if len(more) < 500:
                        self.check(more)

    def test_told_places(self):
        told = {
            "": (0, 0), "wires": (0, 1), "wires ": (0, 1), "wires 2 ": (0, 2), "wires 0": (0, 1), "wires 9": (0, 1),
            "wires 2\n": (1, 0), "\nwires 2": (0, 0), "wires 2\nmix": (1, 1), "wires 2\nmix 2": (1, 1),
            "wires 2\nmix 0 1": (1, 2), "wires 2\nturn 0": (1, 2), "wires 2\nturn 0 0": (1, 2), "wires 2\nturn 0 8": (1, 2),
            "wires 2\nsign 1 1": (1, 2), "wires 2\nsign 1": (1, 2), "wires 3\nboth 0 1 0": (1, 3),
            "wires 3\nboth 0 0 0": (1, 2), "wires 3\nboth 0 1 2 3": (1, 4), "wires 1\nsign 0 0": (1, 2),
            "wires 1\nsign 0": (1, 2), "wires 2\nturn +1 1": (1, 1), "wires 2\nturn 01 1": (1, 1), "wires 2\nmix -0": (1, 1),
            "wires 2\nmix 0\n\nmix 0": (2, 0), "wires 2\nmix 5\nturn": (1, 1), "wires 2\n mix 0": (1, 0),
            "wires " + "8" * 5000: (0, 1), "wires 2\nmix " + "0" * 5000: (1, 1), "wires 2\nmix \u0660": (1, 1),
            "wires " + "1" * 60: (0, 1), "wires " + "1" * 61: (0, 1), "wires 2\r\nmix 0": (0, 1), "Wires 2": (0, 0),
        }
        for text, bad in told.items():
            self.assertEqual(raised(Program.read, text), ("BadText", *bad), text)

    def test_a_deed_too_many(self):
        text = str(LONG)
        for more in ("mix 0", "mix 9", "x", "", "turn"):
            self.assertEqual(raised(Program.read, text + "\n" + more), ("BadText", 201, 0))
        self.assertEqual(raised(Program.read, text + "\nmix 0\nmix 0"), ("BadText", 201, 0))
        self.assertEqual(raised(Program.read, text[:-1] + "1\nmix 0"), ("BadText", 200, 1))

    def test_no_strings(self):
        for bad in [*odd_values(), 3, b"wires 1", ["wires 1"], ("wires 1",), Program(1, [])]:
            if not isinstance(bad, str):
                self.assertEqual(raised(Program.read, bad), ("BadText", 0, 0))


def led(deed):
    """What a deed is led back to, written out."""
    word, *on = deed
    if word == "not":
        return [("mix", *on), ("turn", *on, 4), ("mix", *on)]
    if word == "under":
        a, b = on
        return [("mix", b), ("sign", a, b), ("mix", b)]
    if word == "swap":
        a, b = on
        return led(("under", a, b)) + led(("under", b, a)) + led(("under", a, b))
    if word == "both":
        a, b, c = on
        rows = [("mix", c), ("turn", a, 1), ("turn", b, 1), ("turn", c, 1), ("under", a, b), ("turn", b, 7), ("under", b, c)]
        rows += [("turn", c, 1), ("under", a, c), ("turn", c, 7), ("under", b, c), ("turn", c, 7), ("under", a, c)]
        rows += [("under", a, b), ("mix", c)]
        return [step for row in rows for step in led(row)]
    return [deed]


class LedBackTest(unittest.TestCase):
    def test_each_deed(self):
        for wires in range(1, 5):
            for deed in deeds_on(wires):
                program = Program(wires, [deed])
                self.assertEqual(basic(program), Program(wires, led(deed)))
                odd = sum(step[0] == "turn" and step[2] % 2 for step in led(deed))
                self.assertEqual(odd_turns(program), odd)
        self.assertEqual(basic(program=Program(8, [("under", 7, 3)])).deeds, (("mix", 3), ("sign", 7, 3), ("mix", 3)))

    def test_many_deeds(self):
        steps = Steps(30)
        for wires in (1, 3, 8):
            for many in (0, 5, 30, 200):
                program = drawn(steps, wires, many)
                deeds = [step for deed in program.deeds for step in led(deed)]
                odd = sum(step[0] == "turn" and step[2] % 2 for step in deeds)
                self.assertEqual(odd_turns(program=program), odd)
                if len(deeds) > 200:
                    self.assertEqual(raised(basic, program), ("TooMany", "deeds", 200))
                else:
                    self.assertEqual(basic(program).deeds, tuple(deeds))

    def test_how_many(self):
        self.assertEqual(len(basic(LONG).deeds), 200)
        self.assertEqual(len(basic(Program(2, [("swap", 0, 1)] * 22 + [("mix", 0)] * 2)).deeds), 200)
        self.assertEqual(raised(basic, Program(2, [("swap", 0, 1)] * 22 + [("mix", 0)] * 3)), ("TooMany", "deeds", 200))
        self.assertEqual(odd_turns(Program(3, [("both", 2, 0, 1)] * 200)), 1400)
        self.assertEqual(odd_turns(Program(1, [("not", 0), ("turn", 0, 2), ("turn", 0, 5)])), 1)

    def test_no_programs(self):
        for bad in NO_PROGRAMS:
            for call in (basic, odd_turns, undone):
                self.assertEqual(raised(call, bad), ("BadProgram", "program"))


class TogetherTest(unittest.TestCase):
    def test_undone(self):
        steps = Steps(31)
        for wires in range(1, 9):
            program = drawn(steps, wires, 40)
            expected = [(*deed[:2], 8 - deed[2]) if deed[0] == "turn" else deed for deed in program.deeds[::-1]]
            self.assertEqual(undone(program=program), Program(wires, expected))
            self.assertEqual(undone(undone(program)), program)
        self.assertEqual(len(undone(LONG).deeds), 200)

    def test_joined(self):
        one, other = Program(2, [("mix", 0)]), Program(2, [("turn", 1, 3), ("swap", 0, 1)])
        self.assertEqual(joined(one, other), Program(2, [("mix", 0), ("turn", 1, 3), ("swap", 0, 1)]))
        self.assertEqual(joined(other=one, one=other), Program(2, [("turn", 1, 3), ("swap", 0, 1), ("mix", 0)]))
        self.assertEqual(joined(LONG, Program(1, [])), LONG)
        self.assertEqual(raised(joined, LONG, Program(1, [("mix", 0)])), ("TooMany", "deeds", 200))
        self.assertEqual(raised(joined, one, Program(3, [])), ("Misfit", "wires"))
        self.assertEqual(raised(joined, Program(2, [("mix", 1)] * 200), LONG), ("Misfit", "wires"))

    def test_aside(self):
        one, other = Program(2, [("mix", 1)]), Program(3, [("turn", 1, 3), ("both", 2, 0, 1), ("swap", 0, 1)])
        behind = [("mix", 1), ("turn", 3, 3), ("both", 4, 2, 3), ("swap", 2, 3)]
        self.assertEqual(aside(one, other), Program(5, behind))
        behind = [("turn", 1, 3), ("both", 2, 0, 1), ("swap", 0, 1), ("mix", 4)]
        self.assertEqual(aside(other=one, one=other), Program(5, behind))
        for first in range(1, 9):
            for second in range(1, 9):
                pair = (Program(first, []), Program(second, [("not", second - 1)]))
                if first + second > 8:
                    self.assertEqual(raised(aside, *pair), ("TooMany", "wires", 8))
                else:
                    self.assertEqual(aside(*pair), Program(first + second, [("not", first + second - 1)]))
        self.assertEqual(len(aside(LONG, Program(7, [])).deeds), 200)
        self.assertEqual(raised(aside, LONG, Program(7, [("mix", 6)])), ("TooMany", "deeds", 200))
        self.assertEqual(raised(aside, LONG, Program(8, [("mix", 6)])), ("TooMany", "wires", 8))

    def test_no_programs(self):
        for bad in NO_PROGRAMS:
            for call in (joined, aside):
                self.assertEqual(raised(call, bad, LONG), ("BadProgram", "one"))
                self.assertEqual(raised(call, LONG, bad), ("BadProgram", "other"))
                self.assertEqual(raised(call, bad, bad), ("BadProgram", "one"))
                self.assertEqual(raised(call, other=bad, one=bad), ("BadProgram", "one"))

    def test_what_is_passed_stays(self):
        one, other = Program(1, [("turn", 0, 3)]), Program(1, as_lists([("mix", 0)]))
        undone(one), basic(one), joined(one, other), aside(one, other)
        self.assertEqual((one.deeds, other.deeds), ((("turn", 0, 3),), (("mix", 0),)))


if __name__ == "__main__":
    unittest.main()
