"""Bricks, their columns and words: against the document's words, told once more, and against meanings."""

import unittest
from itertools import product

from helpers import Oddity, Steps, as_lists, odd_values, raised
from lookmade.bricks import bricks_in, bricks_of, columns_of, wall_of, words_of
from lookmade.made import lots_for, net_of
from lookmade.meanings import meaning
from lookmade.nets import with_turns
from lookmade.programs import Program, aside
from lookmade.runs import end_of
from lookmade.spreads import of_bits
from lookmade.waits import first_order
from lookmade.walls import paired, shape, wall_lots
from test_made import drawn_program

PAIRS = {2: [{(0, 1)}, set()], 3: [{(0, 1)}, {(1, 2)}], 4: [{(0, 1), (2, 3)}, {(1, 2)}]}
WORDS = {(0, 0, 0, 0), (2, 2, 2, 0), (0, 2, 0, 6), *[(turn, 0, 0, 0) for turn in range(1, 8)]}


def long_bricks(deed):
    """The bricks of a deed, word by word of the document."""
    word, *told = deed
    if word in ("turn", "mix"):
        return [deed]
    if word == "under":
        one, other = told
        if one - other in (1, -1):
            return [deed]
        c = one + (1 if other > one else -1)
        return long_all([("swap", one, c), ("under", c, other), ("swap", one, c)])
    if word == "sign":
        return long_all([("mix", told[1]), ("under", *told), ("mix", told[1])])
    if word == "not":
        return [("mix", told[0]), ("turn", told[0], 4), ("mix", told[0])]
    if word == "swap":
        a, b = told
        return long_all([("under", a, b), ("under", b, a), ("under", a, b)])
    a, b, c = told
    return long_all([("mix", c), ("turn", a, 1), ("turn", b, 1), ("turn", c, 1), ("under", a, b), ("turn", b, 7),
                     ("under", b, c), ("turn", c, 1), ("under", a, c), ("turn", c, 7), ("under", b, c), ("turn", c, 7),
                     ("under", a, c), ("under", a, b), ("mix", c)])


def long_all(deeds):
    return [brick for deed in deeds for brick in long_bricks(deed)]


def wires_of(brick):
    return brick[1:] if brick[0] == "under" else (brick[1],)


def long_columns(bricks, wires):
    """The columns of bricks, each by trial of all from 0 on."""
    taken, found = {}, []
    for brick in bricks:
        column = 0
        while not (brick[0] != "under" or tuple(sorted(brick[1:])) in PAIRS[wires][column % 2]) or any(
                (wire, later) in taken for wire in wires_of(brick) for later in range(column, len(bricks) * 2 + 2)):
            column += 1
        for wire in wires_of(brick):
            taken[wire, column] = True
        found.append(column)
    return found


def long_words(bricks, places, wires, columns):
    found = [[(0, 0, 0, 0)] * wires for _ in range(columns)]
    for brick, column in zip(bricks, places):
        if brick[0] == "turn":
            found[column][brick[1]] = (brick[2], 0, 0, 0)
        elif brick[0] == "mix":
            found[column][brick[1]] = (2, 2, 2, 0)
        else:
            found[column][brick[1]] = (2, 0, 0, 0)
            found[column][brick[2]] = (0, 2, 0, 6)
    return tuple(tuple(column) for column in found)


def are_of_bricks(words):
    """Whether columns of words are those of bricks, by trial of all bricks of a column."""
    return all(column in all_columns(len(column), at) for at, column in enumerate(words))


COLUMNS = {}


def all_columns(wires, at):
    """All columns of words that bricks can make there."""
    key = (wires, at % 2)
    if key not in COLUMNS:
        found = [{}]
        for low, high in sorted(PAIRS[wires][at % 2]):
            unders = [{}, {low: (2, 0, 0, 0), high: (0, 2, 0, 6)}, {low: (0, 2, 0, 6), high: (2, 0, 0, 0)}]
            found = [{**one, **other} for one in found for other in unders]
        alone = sorted(WORDS - {(0, 2, 0, 6)})
        COLUMNS[key] = {tuple(told) for under in found
                        for told in product(*[[under[wire]] if wire in under else alone for wire in range(wires)])}
    return COLUMNS[key]


class BricksTest(unittest.TestCase):
    def test_drawn_programs(self):
        steps = Steps(81)
        for wires in (2, 3, 4):
            for many in (0, 1, 2, 3, 5, 8):
                program = drawn_program(steps, wires, many)
                bricks = bricks_of(program)
                self.assertEqual(bricks, tuple(long_all(program.deeds)))
                self.assertEqual(columns_of(program), tuple(long_columns(bricks, wires)))

    def test_each_word_on_all_wires(self):
        for wires in (2, 3, 4):
            for word, many in (("mix", 1), ("not", 1), ("sign", 2), ("under", 2), ("swap", 2), ("both", 3)):
                for told in product(range(wires), repeat=many):
                    if len(set(told)) < many:
                        continue
                    program = Program(wires, [(word, *told)])
                    bricks = bricks_of(program)
                    self.assertEqual(bricks, tuple(long_bricks((word, *told))))
                    self.assertEqual(columns_of(program), tuple(long_columns(bricks, wires)))
                    for brick in bricks:
                        self.assertIn(brick[0], ("turn", "mix", "under"))
                        self.assertEqual(brick[0] == "under", len(brick) == 3 and abs(brick[1] - brick[2]) == 1
                                         and brick[0] != "turn")

    def test_bricks_mean_the_same(self):
        steps = Steps(82)
        for wires in (2, 3, 4):
            for _ in range(6):
                program = drawn_program(steps, wires, 2)
                bricks = bricks_of(program)
                spread = steps.spread(wires, 3)
                for at in range(0, len(bricks), 100):
                    self.assertTrue(all(brick[0] in ("turn", "mix", "under") for brick in bricks[at:at + 100]))
                told = spread
                for at in range(0, len(bricks), 100):
                    told = meaning(Program(wires, bricks[at:at + 100]), told)
                self.assertEqual(meaning(Program(wires, []), told), meaning(program, spread))

    def test_columns_by_hand(self):
        mix, turn = ("mix", 0), ("turn", 1, 3)
        self.assertEqual(columns_of(Program(2, [mix, mix, turn, turn, turn, mix])), (0, 1, 0, 1, 2, 2))
        self.assertEqual(columns_of(Program(2, [("under", 0, 1)] * 3)), (0, 2, 4))
        self.assertEqual(columns_of(Program(3, [("under", 1, 2)] * 3)), (1, 3, 5))
        self.assertEqual(columns_of(Program(4, [("under", 3, 2), ("under", 1, 0), ("under", 2, 1), ("mix", 3), ("mix", 0)])),
                         (0, 0, 1, 1, 1))
        # A mix of wire 0 does not go back to column 0, as an under of 0 stands in column 2 already.
        self.assertEqual(columns_of(Program(2, [("turn", 1, 1), ("under", 0, 1), ("mix", 0)])), (0, 2, 3))

    def test_many_columns(self):
        program = Program(4, [("both", 0, 3, 1)] * 200)
        columns = columns_of(program)
        self.assertEqual(len(columns), 200 * len(long_bricks(("both", 0, 3, 1))))
        self.assertEqual(raised(words_of, program, 14), ("TooMany", "columns", 14))
        self.assertEqual(columns_of(Program(2, [("mix", 1)] * 200)), tuple(range(200)))


class WordsTest(unittest.TestCase):
    def test_drawn_programs(self):
        steps = Steps(83)
        sizes = [0, 0, 0]
        for wires in (2, 3, 4):
            for many in (0, 1, 1, 2, 2, 3, 4, 5, 6):
                program = drawn_program(steps, wires, many)
                bricks, places = bricks_of(program), columns_of(program)
                needed = max(places, default=-1) + 1
                for columns in range(1, 15):
                    if columns < needed:
                        self.assertEqual(raised(words_of, program, columns), ("TooMany", "columns", columns))
                        self.assertEqual(raised(wall_of, program, columns), ("TooMany", "columns", columns))
                        sizes[0] += 1
                        continue
                    words = words_of(program, columns)
                    self.assertEqual(words, long_words(bricks, places, wires, columns))
                    sizes[1 if columns == needed else 2] += 1
                    self.check_wall(program, columns, words)
                    told = sorted(zip(places, map(min, map(wires_of, bricks)), bricks))
                    self.assertEqual(bricks_in(words), tuple(brick for _, _, brick in told))
        self.assertGreater(min(sizes), 5)

    def check_wall(self, program, columns, words):
        wires = program.wires
        if wires * (4 * columns + 1) > 120:
            self.assertEqual(raised(wall_of, program, columns), ("TooMany", "things", 120))
            return
        turns = {wire + wires * (4 * column + at): words[column][wire][at]
                 for column in range(columns) for wire in range(wires) for at in range(4)}
        self.assertEqual(wall_of(program, columns), with_turns(shape(wires, columns), turns))

    def test_kinds(self):
        words = words_of(Program(2, [("mix", 0)]), 3)
        self.assertEqual([type(part) for part in (words, words[0], words[0][0])], [tuple] * 3)
        self.assertEqual([len(words), len(words[2]), words[1]], [3, 2, ((0, 0, 0, 0),) * 2])
        self.assertEqual([type(part) for part in (bricks_of(Program(2, [])), columns_of(Program(2, [])))], [tuple] * 2)

    def test_words_of_each_brick(self):
        for turn in range(1, 8):
            self.assertEqual(words_of(Program(2, [("turn", 1, turn)]), 1), (((0, 0, 0, 0), (turn, 0, 0, 0)),))
        self.assertEqual(words_of(Program(3, [("under", 2, 1)]), 2)[1], ((0, 0, 0, 0), (0, 2, 0, 6), (2, 0, 0, 0)))

    def test_errors_in_order(self):
        one, wide, fine = Program(1, []), Program(5, []), Program(2, [("mix", 0), ("mix", 0)])
        for value in (*odd_values(), "wires 2", shape(2, 1)):
            for call in (bricks_of, columns_of):
                self.assertEqual(raised(call, value), ("BadProgram", "program"))
            for call in (words_of, wall_of):
                self.assertEqual(raised(call, value, None), ("BadProgram", "program"))
        for call in (words_of, wall_of):
            for value in (*odd_values(), 0, 15, -1, 1.0, "1"):
                for program in (one, fine, wide):
                    self.assertEqual(raised(call, program, value), ("BadNumber", "columns"))
            for program in (one, wide, Program(8, [("mix", 7)] * 20)):
                self.assertEqual(raised(call, program, 1), ("Misfit", "wires"))
            self.assertEqual(raised(call, fine, 1), ("TooMany", "columns", 1))
            self.assertEqual(raised(call, Program(3, [("under", 1, 2)]), 1), ("TooMany", "columns", 1))
            self.assertEqual(raised(call, program=fine, columns=2), None)
        for call in (bricks_of, columns_of):
            for program in (one, wide, Program(8, [])):
                self.assertEqual(raised(call, program), ("Misfit", "wires"))
            self.assertEqual(raised(call, program=fine), None)
        self.assertEqual(raised(wall_of, Program(4, [("mix", 0)] * 9), 8), ("TooMany", "columns", 8))
        self.assertEqual(raised(wall_of, Program(4, []), 8), ("TooMany", "things", 120))
        self.assertEqual(len(words_of(Program(4, []), 14)), 14)
        self.assertEqual(raised(wall_of, Program(3, []), 10), ("TooMany", "things", 120))
        self.assertEqual(raised(wall_of, Program(3, []), 9), None)


class BricksInTest(unittest.TestCase):
    def check(self, words):
        """Whether just the words of bricks are taken; the bricks tell the words again."""
        if are_of_bricks(words):
            bricks = bricks_in(words)
            self.assertEqual(rebuilt(bricks, words), words)
            return True
        self.assertEqual(raised(bricks_in, words), ("BadProgram", "words"))
        return False

    def test_words_changed(self):
        steps = Steps(84)
        found = [0, 0]
        for wires in (2, 3, 4):
            for many in (1, 2, 3, 4):
                program = drawn_program(steps, wires, many)
                needed = max(columns_of(program), default=0) + 1
                if needed > 14:
                    continue
                words = words_of(program, needed)
                for at, wire in product(range(needed), range(wires)):
                    for word in [*sorted(WORDS), *changed(words[at][wire])]:
                        column = (*words[at][:wire], word, *words[at][wire + 1:])
                        found[self.check((*words[:at], column, *words[at + 1:]))] += 1
                for at in range(needed):
                    if needed > 1:
                        self.check((*words[:at], *words[at + 1:]))
                    if needed < 14:
                        self.check((*words[:at], words[-1 - at], *words[at:]))
                    self.check((*words[:at], words[at][::-1], *words[at + 1:]))
        self.assertGreater(min(found), 300)

    def test_all_columns_of_two_and_three_wires(self):
        some = [(0, 0, 0, 0), (2, 0, 0, 0), (3, 0, 0, 0), (2, 2, 2, 0), (0, 2, 0, 6)]
        for wires in (2, 3, 4):
            for column in product(some, repeat=wires):
                self.check((column,))
                self.check((((0, 0, 0, 0),) * wires, column))

    def test_order(self):
        mix, turn, under = (2, 2, 2, 0), (2, 0, 0, 0), (0, 2, 0, 6)
        self.assertEqual(bricks_in([[under, turn, turn, under], [mix, turn, under, turn]]),
                         (("under", 1, 0), ("under", 2, 3), ("mix", 0), ("under", 1, 2), ("turn", 3, 2)))
        self.assertEqual(bricks_in([[turn, turn]]), (("turn", 0, 2), ("turn", 1, 2)))
        self.assertEqual(bricks_in(words=[[(0, 0, 0, 0)] * 2] * 14), ())
        self.assertEqual(raised(bricks_in, [[under, turn]]), None)
        self.assertEqual(raised(bricks_in, [[mix, mix], [under, turn]]), ("BadProgram", "words"))
        self.assertEqual(raised(bricks_in, [[mix, turn, under]]), ("BadProgram", "words"))
        self.assertEqual(raised(bricks_in, [[under, under]]), ("BadProgram", "words"))

    def test_values_of_all_kinds(self):
        none = (0, 0, 0, 0)
        bad = (*odd_values(), [[]], [[none]], [[none] * 5], [[none] * 2] * 15, [[none] * 2, [none] * 3], [[none] * 2, []],
               [[none] * 2, None], [[none, (0, 0, 0)]], [[none, (0, 0, 0, 0, 0)]], [[none, (True, 0, 0, 0)]],
               [[none, (False, 0, 0, 0)]], [[none, (1.0, 0, 0, 0)]], [[none, (8, 0, 0, 0)]], [[none, (-1, 0, 0, 0)]],
               [[none, None]], [[none, "0000"]], [[none, (0, 0, 0, "0")]], [[none, [0, 0, 0, Oddity()]]], [{0: none, 1: none}],
               {0: [none, none]}, [[none, {0: 0}]], ["ab"], [(none, none), "ab"], [[none, (2, 2, 2, 2)]], [[none, (0, 2, 0, 0)]],
               [[none, (0, 0, 0, 6)]], [[none, (1, 1, 0, 0)]], [[none, (2, 2, 0, 0)]], [[none, (3, 2, 2, 0)]], Program(2, []))
        for value in bad:
            self.assertEqual(raised(bricks_in, value), ("BadProgram", "words"), value)
        words = [[[5, 0, 0, 0], [2, 2, 2, 0]], [[0, 0, 0, 0], [0, 0, 0, 0]]]
        kept = as_lists(words)
        self.assertEqual(bricks_in(words), bricks_in(tuple((tuple(map(tuple, column)) for column in words))))
        self.assertEqual(words, kept)


def changed(word):
    """The word with one turn changed, and of values of other kinds."""
    found = []
    for at in range(4):
        found += [(*word[:at], turn, *word[at + 1:]) for turn in (0, 1, 2, 4, 6, 7)]
    return found


def rebuilt(bricks, words):
    """The words that the bricks have, each in the columns of these words, in the order in which they are told."""
    found = [[(0, 0, 0, 0)] * len(column) for column in words]
    left = list(bricks)
    for at, column in enumerate(words):
        for wire in range(len(column)):
            if left and min(wires_of(left[0])) == wire and column[wire] != (0, 0, 0, 0) == found[at][wire]:
                told = long_words([left.pop(0)], [0], len(column), 1)[0]
                found[at] = [word if word != (0, 0, 0, 0) else old for old, word in zip(found[at], told)]
    return tuple(tuple(column) for column in found) if not left else None


class WallTest(unittest.TestCase):
    def test_against_meanings(self):
        steps = Steps(85)
        for wires in (2, 3, 4):
            widest = {2: 14, 3: 9, 4: 7}[wires]
            runs = 0
            while runs < 12:
                words = ("turn", "mix", "under", "not", "sign", "swap")
                program = drawn_program(steps, wires, steps.between(1, 3), words)
                needed = max(columns_of(program)) + 1
                if needed > widest:
                    continue
                columns = steps.between(needed, widest)
                net, paper = wall_of(program, columns), wall_lots(wires, columns)
                spread = of_bits([steps.below(2) for _ in range(wires)]) if runs % 2 else steps.spread(wires, 3)
                order = first_order(net, paper)
                falls = [steps.below(2) for _ in order]
                self.assertEqual(end_of(net, paper, spread, order, falls), meaning(program, spread))
                runs += 1

    def test_two_programs_in_one_wall(self):
        one, other = Program(2, [("not", 0), ("under", 1, 0)]), Program(2, [("turn", 1, 5), ("swap", 0, 1)])
        first, second = wall_of(one, 7), wall_of(other, 7)
        self.assertEqual((first.strings, first.given, first.kept), (second.strings, second.given, second.kept))
        self.assertNotEqual(first.turns, second.turns)
        self.assertEqual(with_turns(first, second.turns), second)
        both = aside(one, other)
        net, paper = wall_of(both, 7), wall_lots(4, 7)
        steps = Steps(86)
        spread = steps.spread(4, 2)
        order = first_order(net, paper)
        for _ in range(2):
            falls = [steps.below(2) for _ in order]
            self.assertEqual(end_of(net, paper, spread, order, falls), meaning(both, spread))

    def test_the_wall_and_the_net_of_a_program(self):
        program = Program(3, [("mix", 1), ("under", 1, 2), ("turn", 0, 3), ("under", 1, 0)])
        spread = of_bits([1, 0, 1])
        wall, net = wall_of(program, 7), net_of(program)
        ends = [end_of(told, paper, spread, first_order(told, paper), [1] * len(told.looked))
                for told, paper in ((wall, wall_lots(3, 7)), (net, lots_for(program)))]
        self.assertEqual(ends[0], ends[1])

    def test_pairs_stand_in_the_columns_that_the_wall_pairs(self):
        for wires in (2, 3, 4):
            for low in range(wires - 1):
                column = columns_of(Program(wires, [("under", low + 1, low)]))[0]
                self.assertIn((low, low + 1), paired(wires, column))


if __name__ == "__main__":
    unittest.main()
