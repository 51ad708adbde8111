"""Point 2 and lookmade/errors.py: the errors and their fields."""

import unittest

import lookmade.errors as errors
from helpers import odd_values

PART = "BadNumber BadAmount BadSpread BadProgram BadNet BadLots BadOrder BadFalls BadSecrets BadPaper Misfit".split()
FIELDS = {
    **{name: ("part",) for name in PART},
    "NoName": ("value",),
    "Twice": ("value",),
    "TooMany": ("what", "most"),
    "Nothing": (),
    "BadText": ("line", "item"),
    "BadLine": ("line", "error"),
}


def values():
    return [*odd_values(), 0, 1, -7, 10 ** 5000, "part", [[1], (2, [3])], ValueError("x"), errors.LookError()]


class ErrorsTest(unittest.TestCase):
    def test_all_are_there_and_no_others(self):
        told = {name for name, value in vars(errors).items() if isinstance(value, type)}
        self.assertEqual(told, set(FIELDS) | {"LookError"})

    def test_base(self):
        self.assertEqual(errors.LookError.__bases__, (ValueError,))
        self.assertEqual(vars(errors.LookError()), {})
        for value in values():
            self.assertIs(errors.LookError(value, 2).args[0], value)

    def test_each_lies_directly_below_the_base(self):
        for name in FIELDS:
            self.assertEqual(getattr(errors, name).__bases__, (errors.LookError,))

    def test_fields_by_place_and_by_name(self):
        for name, fields in FIELDS.items():
            made = getattr(errors, name)
            for at, value in enumerate(values()):
                told = [value, *values()[at:at + 1]][:len(fields)]
                for error in (made(*told), made(**dict(zip(fields, told)))):
                    self.assertEqual(list(vars(error)), list(fields))
                    for field, one in zip(fields, told):
                        self.assertIs(getattr(error, field), one)

    def test_fields_in_any_order_by_name(self):
        self.assertEqual(vars(errors.TooMany(most=3, what="things")), {"what": "things", "most": 3})
        self.assertEqual(vars(errors.BadText(item=3, line=4)), {"line": 4, "item": 3})
        why = errors.Nothing()
        self.assertEqual(vars(errors.BadLine(error=why, line=4)), {"line": 4, "error": why})

    def test_raised_as_value_errors(self):
        for name, fields in FIELDS.items():
            with self.assertRaises(ValueError):
                raise getattr(errors, name)(*fields)
            self.assertFalse(issubclass(getattr(errors, name), (KeyError, IndexError, TypeError, UnicodeError)))


if __name__ == "__main__":
    unittest.main()
