"""Errors: their fields, how they are made, and what they are below."""

import unittest

from nevercaught import errors

WITH_PART = ("BadNumber", "BadSquare", "BadSquares", "BadBurns", "BadBoard", "BadStand", "BadClimb", "BadSeat",
             "BadPaper", "Misfit")
FIELDS = {
    **{name: ("part",) for name in WITH_PART},
    "NoName": ("value",),
    "Twice": ("value",),
    "TooMany": ("what", "most"),
    "Nothing": (),
    "BadText": ("line", "item"),
    "BadLine": ("line", "error"),
}
VALUES = ("wall", 0, None, [1, [2]], {"a": 1}, True, ValueError("x"))


class Errors(unittest.TestCase):
    def test_all_are_directly_below_the_base(self):
        for name in FIELDS:
            self.assertEqual(getattr(errors, name).__bases__, (errors.FlightError,), name)
        self.assertEqual(errors.FlightError.__bases__, (ValueError,))

    def test_the_base_takes_any_values(self):
        for values in ((), ("a",), (1, None, [2])):
            error = errors.FlightError(*values)
            self.assertIsInstance(error, ValueError)
            self.assertEqual(error.args, values)

    def test_fields_by_place_and_by_name(self):
        for name, fields in FIELDS.items():
            for first in VALUES:
                values = (first, "other")[:len(fields)]
                for error in (getattr(errors, name)(*values), getattr(errors, name)(**dict(zip(fields, values)))):
                    for field, value in zip(fields, values):
                        self.assertIs(getattr(error, field), value)

    def test_a_field_too_few_or_too_many_is_no_error_of_this_kind(self):
        for name, fields in FIELDS.items():
            if fields:
                with self.assertRaises(TypeError):
                    getattr(errors, name)(*fields[1:])
                with self.assertRaises(TypeError):
                    getattr(errors, name)(*fields, 1)

    def test_they_can_be_raised_and_caught_apart(self):
        for name, fields in FIELDS.items():
            with self.assertRaises(getattr(errors, name)):
                raise getattr(errors, name)(*fields)
            for other in FIELDS:
                if other != name:
                    self.assertFalse(issubclass(getattr(errors, name), getattr(errors, other)))


if __name__ == "__main__":
    unittest.main()
