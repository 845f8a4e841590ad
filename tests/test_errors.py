"""[2] and the interface of errors.py."""

import unittest

from handedvotes import errors
from odd_values import Stubborn

FIELDS = {
    "BadNames": "value", "BadPaper": "value", "BadRoll": "place", "BadRule": "place",
    "BadCourse": "value", "BadKinds": "value", "BadQuestion": "value", "BadAnswer": "place",
    "BadNumber": "value", "BadText": "line",
}


def values():
    return [None, 0, 7, "seats", ("a", "a"), [1], {}, True, Stubborn()]


class ErrorsTest(unittest.TestCase):
    def test_vote_error_is_a_value_error(self):
        self.assertEqual(errors.VoteError.__bases__, (ValueError,))

    def test_each_refusal_is_directly_under_vote_error(self):
        for name in FIELDS:
            self.assertEqual(getattr(errors, name).__bases__, (errors.VoteError,), name)

    def test_fields_by_position(self):
        for name, field in FIELDS.items():
            for value in values():
                self.assertIs(getattr(getattr(errors, name)(value), field), value)

    def test_fields_by_name(self):
        for name, field in FIELDS.items():
            for value in values():
                error = getattr(errors, name)(**{field: value})
                self.assertIs(getattr(error, field), value)

    def test_just_one_argument(self):
        for name in FIELDS:
            with self.assertRaises(TypeError):
                getattr(errors, name)()
            with self.assertRaises(TypeError):
                getattr(errors, name)(1, 2)

    def test_too_many_is_an_overflow_and_no_vote_error(self):
        self.assertEqual(errors.TooMany.__bases__, (OverflowError,))
        self.assertFalse(issubclass(errors.TooMany, errors.VoteError))
        self.assertFalse(issubclass(errors.TooMany, ValueError))

    def test_field_of_too_many(self):
        self.assertEqual(errors.TooMany(3).most, 3)
        self.assertEqual(errors.TooMany(most=15).most, 15)

    def test_raised_and_caught_as_what_is_above(self):
        for name in FIELDS:
            with self.assertRaises(errors.VoteError):
                raise getattr(errors, name)(None)
        with self.assertRaises(OverflowError):
            raise errors.TooMany(6)


if __name__ == "__main__":
    unittest.main()
