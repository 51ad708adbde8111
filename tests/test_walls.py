"""Walls: shapes, lots and pairs, string by string."""

import unittest

from helpers import odd_values, raised
from lookmade.check_lots import shows_lots
from lookmade.lots import Lots
from lookmade.nets import Net
from lookmade.walls import paired, shape, wall_lots

PAIRS = {2: [[(0, 1)], []], 3: [[(0, 1)], [(1, 2)]], 4: [[(0, 1), (2, 3)], [(1, 2)]]}
WIDEST = {2: 14, 3: 9, 4: 7}


class WallsTest(unittest.TestCase):
    def test_each_size(self):
        for wires, widest in WIDEST.items():
            for columns in range(1, 15):
                if columns > widest:
                    self.assertEqual(raised(shape, wires, columns), ("TooMany", "things", 120))
                    self.assertEqual(raised(wall_lots, wires, columns), ("TooMany", "things", 120))
                    continue
                last = 4 * columns
                strings = {(wire + wires * p, wire + wires * (p + 1)) for wire in range(wires) for p in range(last)}
                for column in range(columns):
                    for low, high in PAIRS[wires][column % 2]:
                        for p in (4 * column + 2, 4 * column + 4):
                            strings.add((low + wires * p, high + wires * p))
                kept = [wire + wires * last for wire in range(wires)]
                net = Net(wires * (last + 1), sorted(strings), list(range(wires)), kept,
                          {thing: 0 for thing in range(wires * last)})
                self.assertEqual(shape(wires, columns), net)
                lots = [(thing, [thing + wires]) for thing in range(wires * last)]
                layers = [[wire + wires * p for wire in range(wires)] for p in range(last)]
                self.assertEqual(wall_lots(wires, columns), Lots(layers, lots))
                self.assertIs(shows_lots(net, wall_lots(wires, columns)), True)

    def test_paired(self):
        for wires, pairs in PAIRS.items():
            for column in range(14):
                self.assertEqual(paired(wires, column), tuple(pairs[column % 2]))

    def test_errors(self):
        bad = (*odd_values(), 0, -2, 15, 100, 10 ** 20, 3.0, "3")
        for value in (*bad, 1, 5):
            for call in (shape, wall_lots, paired):
                self.assertEqual(raised(call, value, None), ("BadNumber", "wires"))
                self.assertEqual(raised(call, value, 1), ("BadNumber", "wires"))
        for value in bad:
            for wires in (2, 3, 4):
                self.assertEqual(raised(shape, wires, value), ("BadNumber", "columns"))
                self.assertEqual(raised(wall_lots, wires, value), ("BadNumber", "columns"))
        for value in (*odd_values(), -1, 14, 1.0, "1"):
            self.assertEqual(raised(paired, 4, value), ("BadNumber", "column"))
        self.assertEqual(paired(wires=4, column=13), ((1, 2),))
        self.assertEqual(shape(wires=2, columns=1).things, 10)
        self.assertEqual(len(wall_lots(wires=2, columns=1).layers), 4)


if __name__ == "__main__":
    unittest.main()
