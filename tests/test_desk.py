"""The desk: what it answers and raises, line by line, against a desk that reckons all anew from its log each time."""

import unittest
from itertools import product

from forms import bad_in_line, bent_rows
from helpers import Oddity, Steps, odd_values, raised
from lookmade.amounts import length_of
from lookmade.desk import Desk
from lookmade.errors import LookError, Misfit, Nothing, TooMany
from lookmade.lesser import lesser
from lookmade.lots import lots_of
from lookmade.made import lots_for, net_of
from lookmade.meanings import readings
from lookmade.pictures import course, picture
from lookmade.players import Player
from lookmade.programs import Program
from lookmade.spreads import of_bits
from test_made import WORDS, drawn_program

KEPT = [*WORDS, "net", "lesser", "look"]
LATE = "lesser look ready ask live end picture course".split()


def row(numbers):
    return " ".join(map(str, numbers)) or "-"


class OwnDesk:
    """A desk as the document tells it: its log, what was taken back, and nothing more."""

    def __init__(self, wires):
        self.wires, self.log, self.back = wires, [], []

    def stand(self):
        """The deeds, the net and its Lots and the player that the log leads to."""
        deeds, net, paper, player = [], None, None, None
        for line in self.log:
            word, *told = line.split(" ")
            told = list(map(int, told))
            if word in WORDS:
                deeds.append((word, *told))
            elif word == "look":
                player.look(*told)
            else:
                if word == "net":
                    program = Program(self.wires, deeds)
                    spread, net, paper = of_bits(told), net_of(program), lots_for(program)
                else:
                    net = lesser(net).net
                    paper = lots_of(net)
                player = Player(net, paper, spread)
        return deeds, net, paper, player

    def tell(self, line):
        word, *told = line.split(" ")
        deeds, net, paper, player = self.stand()
        if word in KEPT and len(self.log) >= 200:
            raise TooMany("lines", 200)
        if (word in WORDS or word == "net") and net or word in LATE and not net:
            raise Misfit("net")
        if word == "lesser" and player.heard:
            raise Misfit("looked")
        if word == "undo" and not self.log or word == "again" and not self.back:
            raise Nothing()
        if word == "undo":
            self.back.append(self.log.pop())
            return self.back[-1]
        if word == "again":
            back = self.back[:-1]
            answer = self.tell(self.back[-1])
            self.back = back
            return answer
        if word in KEPT:
            answer = self.answer_kept(line, deeds, player)
            self.back = []
            return answer
        return {
            "log": lambda: " / ".join(self.log) or "-",
            "program": lambda: " / ".join(row(deed) for deed in deeds) or "-",
            "ready": lambda: row(player.ready()),
            "ask": lambda: str(player.asks(int(told[0]))),
            "live": lambda: f"{row(player.live)} : {player.most}",
            "end": lambda: " / ".join(row((at, *length_of(one))) for at, one in enumerate(player.end()) if any(one)),
            "picture": lambda: " / ".join(picture(net, paper)),
            "course": lambda: " / ".join(course(net, paper, player.heard)) or "-",
        }[word]()

    def answer_kept(self, line, deeds, player):
        word, *told = line.split(" ")
        answer = str(len(deeds) + 1)
        if word == "look":
            answer = str(player.look(*map(int, told)))
        if word == "net":
            net_of(Program(self.wires, deeds))
        self.log.append(line)
        if word in ("net", "lesser"):
            _, net, paper, _ = self.stand()
            answer = f"{net.things} {len(net.strings)} {len(paper.layers)}"
        return answer


def told(desk, line):
    """The answer of a desk, or what it raises."""
    try:
        return desk.tell(line)
    except LookError as error:
        return (type(error).__name__, *vars(error).values())


def told_all(desk, lines):
    return [told(desk, line) for line in lines]


def all_that_is_told(desk):
    """All that a desk answers to lines that are not kept, but undo and again."""
    lines = ["log", "program", "ready", "live", "end", "picture", "course", *[f"ask {thing}" for thing in range(9)]]
    return [desk.wires, desk.log, *told_all(desk, lines)]


def drawn_line(steps, wires, desk):
    """A line that looks drawn, often one that can be told now."""
    kinds = ["deed"] * 6 + ["net", "lesser", "undo", "undo", "again", "again"]
    if desk.stand()[1]:
        kinds = ["look"] * 12 + ["lesser", "net", "deed", "undo", "undo", "again", "again"]
    kind = [*kinds, "log", "program", "ready", "ask", "live", "end", "picture", "course"][steps.below(len(kinds) + 8)]
    if kind == "deed":
        return row(drawn_program(steps, wires, 1).deeds[0])
    if kind == "net":
        return row(["net", *[steps.below(2) for _ in range(wires)]])
    player = desk.stand()[3]
    ready = player.ready() if player else ()
    thing = ready[steps.below(len(ready))] if ready and steps.below(5) else steps.below(9)
    return {"look": f"look {thing} {steps.below(2)}", "ask": f"ask {thing}"}.get(kind, kind)


class DrawnTest(unittest.TestCase):
    def test_drawn_lines(self):
        steps = Steps(161)
        seen = {}
        for at in range(60):
            wires = 1 + at % 3
            desk, own = Desk(wires), OwnDesk(wires)
            for _ in range(50):
                line = drawn_line(steps, wires, own)
                answer = told(own, line)
                self.assertEqual(told(desk, line), answer, (own.log, line))
                self.assertEqual(desk.log, tuple(own.log))
                kind = answer[0] if isinstance(answer, tuple) else "answer"
                seen[line.split(" ")[0], kind] = seen.get((line.split(" ")[0], kind), 0) + 1
            self.assertEqual(all_that_is_told(desk)[2:], all_that_is_told(told_again(own))[2:])
            self.assertEqual(desk.wires, wires)
        for word in [*LATE, "undo", "again", "log", "program", "net", "mix"]:
            self.assertGreater(seen.get((word, "answer"), 0), 10, word)
        for word in ("net", "lesser", "look", "mix", "end"):
            self.assertGreater(seen.get((word, "Misfit"), 0), 5, word)
        self.assertGreater(seen["look", "Twice"], 3)
        self.assertGreater(seen["look", "BadNumber"], 3)

    def test_the_log_tells_all(self):
        steps = Steps(162)
        for at in range(40):
            wires = 1 + at % 3
            desk, own = Desk(wires), OwnDesk(wires)
            for _ in range(60):
                line = drawn_line(steps, wires, own)
                told(desk, line)
                told(own, line)
            other = told_again(desk)
            self.assertEqual(all_that_is_told(desk), all_that_is_told(other))
            self.assertEqual(told(other, "again"), ("Nothing",))
            many = len(desk.log)
            for _ in range(many):
                self.assertEqual(told(desk, "undo"), told(other, "undo"))
                self.assertEqual(all_that_is_told(desk), all_that_is_told(other))
            for _ in range(many):
                self.assertEqual(told(desk, "again"), told(other, "again"))
                self.assertEqual(all_that_is_told(desk), all_that_is_told(other))
            self.assertEqual((len(desk.log), told(other, "again")), (many, ("Nothing",)))

    def test_one_end(self):
        steps = Steps(163)
        for at in range(30):
            wires = 1 + at % 3
            program = drawn_program(steps, wires, steps.between(0, 4))
            bits = [steps.below(2) for _ in range(wires)]
            wanted = " / ".join(row((number, *length)) for number, length in readings(program, of_bits(bits)))
            for less in range(3):
                desk = Desk(wires)
                told_all(desk, [row(deed) for deed in program.deeds])
                told_all(desk, [row(["net", *bits]), *["lesser"] * less])
                while desk.tell("ready") != "-":
                    ready = desk.tell("ready").split(" ")
                    thing = ready[steps.below(len(ready))]
                    turn = desk.tell(f"ask {thing}")
                    self.assertEqual(desk.tell(f"look {thing} {steps.below(2)}"), turn)
                self.assertEqual(desk.tell("end"), wanted)
                self.assertEqual(desk.tell("end"), wanted)


def told_again(desk):
    """A new desk that is told the log of another one."""
    found = Desk(desk.wires)
    for line in desk.log:
        found.tell(line)
    return found


class LineTest(unittest.TestCase):
    def lines(self, wires):
        found = [row((word, *range(many), *([7] if word == "turn" else []))) for word, many in WORDS.items() if many <= wires]
        found += [row(["net", *[at % 2 for at in range(wires)]]), "look 0 1", "ask 3"]
        return found + "lesser undo again log program ready live end picture course".split(" ")

    def test_bent(self):
        many = 0
        for wires in (1, 2, 3, 8):
            desk = Desk(wires)
            for line in self.lines(wires):
                self.assertIsNone(bad_in_line(line, wires))
                bent = [" ".join(items) for items in bent_rows(line.split(" "))]
                bent += [line + "\n", "\n" + line, line.replace(" ", "\n"), line + "\nlog", line + " ", " " + line, line + "\r",
                         line.replace(" ", "  "), line.upper(), line + "\t", line.replace(" ", "\t"), line + " 0", line + " 0 0"]
                for one in bent:
                    bad = bad_in_line(one, wires)
                    if bad is not None:
                        self.assertEqual(told(desk, one), ("BadText", 0, bad), one)
                        many += 1
                    else:
                        self.assertNotEqual(told(Desk(wires), one)[0], "BadText", one)
            self.assertEqual(desk.log, ())
        self.assertGreater(many, 10000)

    def test_words_of_others(self):
        for word in ("wires", "things", "given", "kept", "string", "steps", "quarter", "pair", "Net", "NET", "", "-", "0", "none"):
            self.assertEqual(told(Desk(1), word), ("BadText", 0, 0))
            self.assertEqual(told(Desk(1), word + " 0"), ("BadText", 0, 0))

    def test_no_strings(self):
        for value in (*odd_values(), 5, b"log", ["log"], ("mix", 0), Oddity()):
            if not isinstance(value, str):
                self.assertEqual(told(Desk(1), value), ("BadText", 0, 0))
        self.assertEqual(Desk(1).tell(line="log"), "-")

    def test_wires(self):
        for wires in range(1, 9):
            desk = Desk(wires)
            for word, many in WORDS.items():
                for wanted in product(range(min(wires + 1, 4)), repeat=many):
                    line = row((word, *wanted, *([3] if word == "turn" else [])))
                    bad = bad_in_line(line, wires)
                    answer = told(desk, line)
                    self.assertEqual(answer, ("BadText", 0, bad) if bad is not None else str(len(desk.log)))
                    if len(desk.log) > 100:
                        desk = Desk(wires)

    def test_edges(self):
        for line, bad in (("turn 0 0", 2), ("turn 0 8", 2), ("turn 0 7", None), ("turn 0 1", None), ("turn 0 07", 2), ("turn 0", 2),
                          ("turn", 1), ("mix 2", 1), ("mix 1", None), ("mix -1", 1), ("under 0 0", 2), ("under 1 1", 2),
                          ("both 0 1 0", 3), ("both 0 1 2", 3), ("both 0 1", 3), ("sign 0 1 1", 3), ("mix 0 1", 2), ("look 119 0", None),
                          ("look 120 0", 1), ("look -0 0", 1), ("look 0 2", 2), ("look 0 -1", 2), ("look 0", 2), ("look", 1),
                          ("look 0 0 0", 3), ("ask 119", None), ("ask 120", 1), ("ask", 1), ("ask 1 0", 2), ("net 0", 2), ("net", 1),
                          ("net 0 0 0", 3), ("net 0 2", 2), ("net 2 2", 1), ("net 0 0", None), ("lesser 0", 1), ("undo ", 1),
                          ("log\n", 0), ("net 0 0\n", 2), ("net 0\n0", 1), ("net\n0 0", 0), ("mix 0\nmix 1", 1), ("look x y", 1),
                          ("ask 1\n", 1), ("mix " + "1" * 5000, 1), ("ask " + "9" * 19000, 1), ("look 0 " + "0" * 61, 2), ("", 0),
                          (" ", 0), ("\n", 0), ("mix  0", 1), ("mix \u0661", 1)):
            answer = told(Desk(2), line)
            self.assertEqual(answer == ("BadText", 0, bad), bad is not None, (line, answer))
            self.assertEqual(answer[0] == "BadText", bad is not None, (line, answer))

    def test_wrong_wires(self):
        for value in (*odd_values(), 0, 9, -1, 1.0, 10 ** 30):
            self.assertEqual(raised(Desk, value), ("BadNumber", "wires"))
        for wires in range(1, 9):
            self.assertEqual((Desk(wires=wires).wires, Desk(wires).log), (wires, ()))


class TimeTest(unittest.TestCase):
    def test_before_there_is_a_net(self):
        desk = Desk(2)
        for line in ("lesser", "look 0 0", "ready", "ask 0", "live", "end", "picture", "course", "look 119 1", "ask 119"):
            self.assertEqual(told(desk, line), ("Misfit", "net"))
        self.assertEqual(told_all(desk, ["log", "program", "undo", "again"]), ["-", "-", ("Nothing",), ("Nothing",)])
        self.assertEqual(told_all(desk, ["mix 0", "turn 1 3", "program", "log"]), ["1", "2", "mix 0 / turn 1 3", "mix 0 / turn 1 3"])

    def test_once_there_is_one(self):
        desk = Desk(3)
        told_all(desk, ["mix 0", "net 0 1 0"])
        before = all_that_is_told(desk)
        for line in ("turn 0 1", "mix 1", "sign 0 1", "not 2", "under 0 1", "swap 1 2", "both 0 1 2", "net 0 0 0", "net 0 1 0"):
            self.assertEqual(told(desk, line), ("Misfit", "net"))
        self.assertEqual(all_that_is_told(desk), before)
        desk.tell("undo")
        self.assertEqual(told_all(desk, ["mix 1", "net 1 1 1"]), ["2", "5 2 1"])

    def test_lesser_once_something_was_looked_at(self):
        desk = Desk(1)
        told_all(desk, ["mix 0", "turn 0 2", "mix 0", "mix 0", "net 1"])
        self.assertEqual(told_all(desk, ["lesser", "lesser", "picture"]), ["3 2 2"] * 2 + ["0 6.. > 1 / 1 .6. - 0 2 / 2 ..= - 1"])
        self.assertEqual(told_all(desk, ["look 0 0", "lesser", "undo", "lesser"]), ["6", ("Misfit", "looked"), "look 0 0", "3 2 2"])
        self.assertEqual(len(desk.log), 8)

    def test_what_players_raise(self):
        desk = Desk(2)
        told_all(desk, ["mix 0", "under 0 1", "net 0 0"])
        before = all_that_is_told(desk)
        for line, error in (("look 5 0", ("BadNumber", "thing")), ("look 2 0", ("BadNumber", "thing")), ("ask 4", ("BadNumber", "thing")),
                            ("look 119 1", ("BadNumber", "thing")), ("look 3 0", ("Misfit", "thing")), ("ask 3", ("Misfit", "thing")),
                            ("end", ("Misfit", "end"))):
            self.assertEqual(told(desk, line), error)
        self.assertEqual(all_that_is_told(desk), before)
        self.assertEqual(told_all(desk, ["look 0 1", "look 0 1", "look 0 0", "ask 0"]), ["0", *[("Twice", 0)] * 3])

    def test_too_many_things(self):
        desk = Desk(1)
        told_all(desk, ["mix 0"] * 119 + ["turn 0 1"])
        self.assertEqual(told(desk, "net 0"), ("TooMany", "things", 120))
        self.assertEqual(len(desk.log), 120)
        self.assertEqual(told_all(desk, ["ready", "undo", "net 0"]), [("Misfit", "net"), "turn 0 1", "120 119 119"])
        self.assertEqual(len(desk.log), 120)

    def test_too_many_live(self):
        # The lesser net of this program has a thing with many neighbours.
        desk = Desk(8)
        words = ("mix", "turn", "sign", "sign", "mix", "under")
        told_all(desk, [row(deed) for deed in drawn_program(Steps(2), 8, 60, words).deeds])
        told_all(desk, ["net 0 0 0 0 0 0 0 0", "lesser"])
        found = [told(desk, f"look {thing} {fall}") for thing in desk.tell("ready").split(" ") for fall in (0, 1)]
        self.assertIn(("TooMany", "live", 12), found)
        before = all_that_is_told(desk)
        for thing in desk.tell("ready").split(" "):
            if told(desk, f"look {thing} 1") == ("TooMany", "live", 12):
                self.assertEqual(all_that_is_told(desk), before)
            before = all_that_is_told(desk)

    def test_two_things_wrong_at_once(self):
        # No line of the tables comes before all else.
        desk = Desk(2)
        self.assertEqual(told_all(desk, ["look 120 0", "look 0 2", "ready 0"]), [("BadText", 0, 1), ("BadText", 0, 2), ("BadText", 0, 1)])
        told_all(desk, ["mix 0", "net 0 0"])
        self.assertEqual(told_all(desk, ["mix 2", "under 1 1", "net 0", "net 0 0 0"]),
                         [("BadText", 0, 1), ("BadText", 0, 2), ("BadText", 0, 2), ("BadText", 0, 3)])
        # Then that the log is full, and only then that there is a net, or none.
        full = Desk(1)
        told_all(full, ["turn 0 1"] * 200)
        self.assertEqual(told_all(full, ["look 0 0", "lesser", "net 0", "mix 0"]), [("TooMany", "lines", 200)] * 4)
        self.assertEqual(told_all(full, ["mix 1", "look 0", "net 2"]), [("BadText", 0, 1), ("BadText", 0, 2), ("BadText", 0, 1)])
        self.assertEqual(told_all(full, ["ready", "end", "again"]), [("Misfit", "net"), ("Misfit", "net"), ("Nothing",)])
        looked = Desk(1)
        told_all(looked, ["mix 0", "mix 0", "net 0", *["lesser"] * 196, "look 0 0"])
        self.assertEqual(len(looked.log), 200)
        self.assertEqual(told_all(looked, ["lesser", "mix 0", "net 0", "look 0 0", "look 9 9"]),
                         [("TooMany", "lines", 200)] * 4 + [("BadText", 0, 2)])
        told_all(looked, ["undo", "undo", "look 0 1"])
        self.assertEqual(told_all(looked, ["lesser", "net 0", "look 0 0", "look 5 0"]),
                         [("Misfit", "looked"), ("Misfit", "net"), ("Twice", 0), ("BadNumber", "thing")])


class LogTest(unittest.TestCase):
    def test_200_lines_and_one_more(self):
        desk = Desk(1)
        self.assertEqual(told_all(desk, ["turn 0 3"] * 200), [str(at) for at in range(1, 201)])
        for _ in range(2):
            self.assertEqual(told(desk, "turn 0 3"), ("TooMany", "lines", 200))
            self.assertEqual(told(desk, "net 0"), ("TooMany", "lines", 200))
            self.assertEqual(len(desk.log), 200)
        self.assertEqual(desk.tell("log"), " / ".join(["turn 0 3"] * 200))
        self.assertEqual(told_all(desk, ["undo", "again", "again", "undo", "net 1", "ready"]),
                         ["turn 0 3", "200", ("Nothing",), "turn 0 3", "3 2 2", "0"])
        self.assertEqual(told(desk, "look 0 0"), ("TooMany", "lines", 200))

    def test_undo_and_again_at_every_place(self):
        steps = Steps(164)
        lines = ["mix 0", "under 0 1", "turn 1 3", "mix 1", "net 0 1", "lesser"]
        desk = Desk(2)
        told_all(desk, lines)
        while desk.tell("ready") != "-":
            lines.append(f"look {desk.tell('ready').split(' ')[0]} {steps.below(2)}")
            desk.tell(lines[-1])
        self.assertGreater(len(lines), 8)
        answers, states, desk = [], [], Desk(2)
        for line in lines:
            states.append(all_that_is_told(desk))
            answers.append(desk.tell(line))
        states.append(all_that_is_told(desk))
        for many in range(len(lines) + 1):
            desk = Desk(2)
            told_all(desk, lines[:many])
            self.assertEqual(told(desk, "again"), ("Nothing",))
            for back in range(1, many + 1):
                self.assertEqual(desk.tell("undo"), lines[many - back])
                self.assertEqual(all_that_is_told(desk), states[many - back])
            self.assertEqual(told(desk, "undo"), ("Nothing",))
            for at in range(many):
                self.assertEqual(desk.tell("again"), answers[at])
                self.assertEqual(all_that_is_told(desk), states[at + 1])
            self.assertEqual(told(desk, "again"), ("Nothing",))

    def test_again_behind_other_lines(self):
        desk = Desk(2)
        told_all(desk, ["mix 0", "mix 1", "turn 0 2", "undo", "undo"])
        # Behind lines that are not kept, and lines that raise, what was taken back can be told again.
        for line in ("log", "program", "ready", "mix 2", "mix", "under 0 0", "look 0 0", "nothing"):
            told(desk, line)
        self.assertEqual([told(desk, "again"), desk.log], ["2", ("mix 0", "mix 1")])
        self.assertEqual([told(desk, "again"), told(desk, "again")], ["3", ("Nothing",)])
        # Behind another line that is kept it cannot, not even once that line is taken back.
        told_all(desk, ["undo", "undo", "mix 0"])
        self.assertEqual(told(desk, "again"), ("Nothing",))
        self.assertEqual(told_all(desk, ["undo", "again", "again"]), ["mix 0", "2", ("Nothing",)])
        self.assertEqual(desk.log, ("mix 0", "mix 0"))

    def test_the_same_line_told_by_hand(self):
        desk = Desk(1)
        told_all(desk, ["mix 0", "turn 0 1", "undo", "undo", "mix 0"])
        self.assertEqual(told(desk, "again"), ("Nothing",))

    def test_undo_of_a_net(self):
        desk = Desk(1)
        told_all(desk, ["mix 0", "net 1", "look 0 1", "end"])
        self.assertEqual(told_all(desk, ["undo", "undo", "ready", "mix 0", "net 0", "look 0 0", "look 1 1", "end"]),
                         ["look 0 1", "net 1", ("Misfit", "net"), "2", "3 2 2", "0", "0", "0 1 0"])

    def test_answers_of_none(self):
        desk = Desk(2)
        self.assertEqual(told_all(desk, ["log", "program", "net 1 0"]), ["-", "-", "2 0 0"])
        self.assertEqual(told_all(desk, ["program", "log", "ready", "course", "live", "end", "picture"]),
                         ["-", "net 1 0", "-", "-", "0 1 : 2", "1 1 0", "0 = > - / 1 = > -"])

    def test_end_changes_nothing(self):
        desk = Desk(2)
        told_all(desk, ["mix 0", "sign 0 1", "mix 1", "net 0 1"])
        while desk.tell("ready") != "-":
            desk.tell(f"look {desk.tell('ready').split(' ')[-1]} 1")
        before = all_that_is_told(desk)
        self.assertEqual(all_that_is_told(desk), before)
        self.assertEqual(all_that_is_told(told_again(desk)), before)

    def test_kinds(self):
        desk = Desk(1)
        told_all(desk, ["mix 0", "undo", "again"])
        self.assertIsInstance(desk.log, tuple)
        log = desk.log
        desk.tell("mix 0")
        self.assertEqual((log, desk.log), (("mix 0",), ("mix 0", "mix 0")))
        self.assertEqual(desk, desk)
        self.assertNotEqual(desk, Desk(1))

    def test_great_nets(self):
        desk = Desk(3)
        told_all(desk, ["mix 0", "mix 1", "mix 2", "sign 0 1", "sign 1 2", "turn 1 3"] * 12)
        self.assertEqual(desk.tell("net 0 0 0").split(" ")[0], "41")
        while desk.tell("ready") != "-":
            desk.tell(f"look {desk.tell('ready').split(' ')[0]} 1")
        end, log = desk.tell("end"), desk.log
        for _ in range(30):
            desk.tell("undo")
        for _ in range(30):
            desk.tell("again")
        self.assertEqual((desk.tell("end"), desk.log), (end, log))


if __name__ == "__main__":
    unittest.main()
