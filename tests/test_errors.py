"""Point 5: the errors."""

import unittest

from saidatonce import errors
from tests.odd import odd_values

WITH = {
    "InvalidTable": ("at",),
    "InvalidText": ("line", "at"),
    "InvalidTimes": ("at",),
    "InvalidDay": ("at",),
    "InvalidPaper": ("at",),
    "InvalidNumber": ("word",),
    "Refused": ("word",),
    "Broken": ("word",),
}


class ErrorsTest(unittest.TestCase):
    def test_hour_error_is_a_value_error(self):
        self.assertTrue(issubclass(errors.HourError, ValueError))

    def test_each_error_is_a_direct_subclass(self):
        for name in WITH:
            self.assertEqual(getattr(errors, name).__bases__, (errors.HourError,), name)

    def test_none_is_derived_from_another_one(self):
        for one in WITH:
            for other in WITH:
                if one != other:
                    self.assertFalse(issubclass(getattr(errors, one), getattr(errors, other)), (one, other))

    def test_each_keeps_what_it_is_given(self):
        for name, words in WITH.items():
            for value in odd_values() + [-1, 0, 7, "thing", (1, 2)]:
                other = object()
                given = (value, other)[:len(words)]
                by_place = getattr(errors, name)(*given)
                by_name = getattr(errors, name)(**dict(zip(words, given)))
                for word, one in zip(words, given):
                    self.assertIs(getattr(by_place, word), one, name)
                    self.assertIs(getattr(by_name, word), one, name)

    def test_line_and_place_are_not_mixed_up(self):
        error = errors.InvalidText(3, 5)
        self.assertEqual((error.line, error.at), (3, 5))
        error = errors.InvalidText(at=3, line=5)
        self.assertEqual((error.line, error.at), (5, 3))

    def test_they_can_be_raised_and_caught(self):
        for name, words in WITH.items():
            with self.assertRaises(errors.HourError) as caught:
                raise getattr(errors, name)(*words)
            self.assertIs(caught.exception.__class__, getattr(errors, name))


if __name__ == "__main__":
    unittest.main()
