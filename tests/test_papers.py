"""Point 3 and lookmade/papers.py: papers, denials, fixed."""

import unittest

from helpers import Oddity, odd_values
from lookmade.lesser import Lesser
from lookmade.lots import Fewest, Lots, Stuck
from lookmade.papers import Denial, Paper, fixed

# Each class of papers of the package, with its word and the names of its parts.
KINDS = ((Lots, "lots", ("layers", "lots")), (Stuck, "stuck", ("left", "shows")), (Fewest, "fewest", ("layers", "shows")),
         (Lesser, "lesser", ("steps", "net")))


class Note(Paper):
    """A class of papers beside those of the package."""


class No(Denial):
    """A class of denials beside those of the package."""


class PapersTest(unittest.TestCase):
    def test_fixed(self):
        self.assertEqual(fixed([1, (2, [3])]), (1, (2, (3,))))
        self.assertEqual(fixed(value=([], [()], ((),))), ((), ((),), ((),)))
        self.assertEqual(fixed([[], {"a": [1]}]), ((), {"a": [1]}))
        self.assertIsInstance(fixed([{"a": [1]}])[0]["a"], list)

    def test_fixed_leaves_other_values(self):
        for value in [*odd_values(), 5, 10 ** 30, ValueError("x")]:
            if not isinstance(value, (list, tuple)):
                self.assertIs(fixed(value), value)
                self.assertIs(fixed([[value]])[0][0], value)

    def test_fixed_many_deep(self):
        for kinds in ((list,), (tuple,), (list, tuple)):
            value, expected = "end", "end"
            for depth in range(60):
                value = kinds[depth % len(kinds)]([depth, value])
                expected = (depth, expected)
            self.assertEqual(fixed(value), expected)
            self.assertEqual(Paper("deep", value).parts, (expected,))

    def test_word_and_parts(self):
        note = Paper("note", [1, (2, [3])], None, {"a": [1]}, [])
        self.assertEqual((note.word, note.parts), ("note", ((1, (2, (3,))), None, {"a": [1]}, ())))
        self.assertEqual((Paper("note").word, Paper("note").parts), ("note", ()))
        self.assertEqual((Paper(word="note").word, Denial(word="no").parts), ("note", ()))
        self.assertEqual((Denial("no", [1]).word, Denial("no", [1]).parts), ("no", ((1,),)))

    def test_truth(self):
        for told in ((), (1,), ([],), (0, False)):
            self.assertIs(bool(Paper("x", *told)), True)
            self.assertIs(bool(Denial("x", *told)), False)
            self.assertIs(bool(Note("x", *told)), True)
            self.assertIs(bool(No("x", *told)), False)

    def test_below(self):
        self.assertEqual(Denial.__bases__, (Paper,))
        self.assertIsInstance(Denial("x"), Paper)
        self.assertNotIsInstance(Paper("x"), Denial)
        for made in (Paper, Denial):
            for name in ("__init__", "__eq__", "__bool__"):
                self.assertIn(name, vars(made))

    def test_equal(self):
        for made in (Paper, Denial, Note, No):
            self.assertIs(made("x", [1, [2]]) == made("x", (1, (2,))), True)
            self.assertIs(made("x", [1, [2]]) != made("x", (1, (2,))), False)
            self.assertIs(made("x") == made("x"), True)
            for other in (made("y", 1), made("x"), made("x", 2), made("x", 1, 1), made("x", (1,)), made("x", "1")):
                self.assertIs(made("x", 1) == other, False)
                self.assertIs(made("x", 1) != other, True)
            self.assertIs(made("x", True) == made("x", 1), True)

    def test_unlike_classes(self):
        kinds = (Paper, Denial, Note, No)
        for one in kinds:
            for other in kinds:
                self.assertIs(one("x", 1) == other("x", 1), one is other)
                self.assertIs(one("x", 1) != other("x", 1), one is not other)
            for other in [*odd_values(), "x", ("x", 1), ("x", (1,)), Oddity()]:
                self.assertIs(one("x", 1) == other, False)
                self.assertIs(other == one("x", 1), False)

    def test_classes_of_one_name_that_are_no_papers(self):
        for made in (Paper, Denial):
            other = type(made.__name__, (), {"word": "x", "parts": (1,)})()
            self.assertIs(made("x", 1) == other, False)
            self.assertIs(made("x", 1) != other, True)

    def test_each_class_of_the_package(self):
        values = [*odd_values(), [[1], (2, [3])], {"a": [1]}, 5, Paper("x")]
        for made, word, names in KINDS:
            self.assertEqual(made.__bases__, (Denial if made is Stuck else Paper,))
            for one, other in zip(values, values[1:] + values[:1]):
                parts = (fixed(one), fixed(other))
                for paper in (made(one, other), made(**dict(zip(names, (one, other)))), made(one, **{names[1]: other})):
                    self.assertEqual((paper.word, paper.parts), (word, parts))
                    self.assertEqual(tuple(getattr(paper, name) for name in names), parts)
                    self.assertIs(bool(paper), made is not Stuck)
                    self.assertTrue(paper == made(*parts))
                    self.assertFalse(paper == made(one, [other]))
                    self.assertFalse(paper == (Denial if made is Stuck else Paper)(word, one, other))
                for others, _, _ in KINDS:
                    self.assertIs(made(one, other) == others(one, other), made is others)

    def test_what_was_passed_may_be_changed(self):
        inner = [2]
        passed = [1, inner, (inner,)]
        note, denial = Paper("note", passed, inner), Denial("no", passed)
        passed.append(4)
        inner.append(3)
        self.assertEqual(note.parts, ((1, (2,), ((2,),)), (2,)))
        self.assertEqual(denial.parts, ((1, (2,), ((2,),)),))
        self.assertEqual(passed, [1, [2, 3], ([2, 3],), 4])


if __name__ == "__main__":
    unittest.main()
