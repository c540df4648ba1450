"""What tests of many modules ask for: which error is raised, and for which values."""

import unittest

from saidatonce.errors import InvalidNumber, InvalidTimes, Refused
from tests.odd import Sour, Yes, odd_values

NO_BATCHES = [[1], (0,), (101,), (True,), (1,) * 61, 1, (1, 0), (1.0,), (Sour(),), (Yes(),), (1, None), "1", ((1,),)]
NO_INTEGERS = [None, True, False, 0.0, 1.0, "0", "a", (0,), [0], b"0", {}, Sour(), Yes(), float("nan"), 1j, int]


class Checks(unittest.TestCase):
    def raised(self, error, told, call, *arguments):
        """The call raises this error, with this word or place."""
        with self.assertRaises(error) as caught:
            call(*arguments)
        self.assertIs(type(caught.exception), error)
        attributes = vars(caught.exception)
        self.assertEqual(tuple(attributes.values()), told if isinstance(told, tuple) else (told,))

    def refused(self, word, call, *arguments):
        self.raised(Refused, word, call, *arguments)

    def takes_times(self, table, call):
        """A call with one argument takes any value as times."""
        count = len(table.things)
        for value in odd_values() + [[None] * count, (None,) * (count - 1), (None,) * (count + 1)]:
            self.raised(InvalidTimes, -1, call, value)
        for wrong in (True, False, 1.0, "1", (1,), 10 ** 9 + 1, -10 ** 9 - 1, Sour(), Yes(), float("nan")):
            self.raised(InvalidTimes, count - 1, call, (None,) * (count - 1) + (wrong,))
            self.raised(InvalidTimes, 0, call, (wrong,) + (None,) * (count - 2) + (0.5,))

    def takes_batches(self, call):
        """A call with one argument takes any value as batches."""
        for value in odd_values() + NO_BATCHES:
            if not (isinstance(value, tuple) and value == ()):
                self.raised(InvalidNumber, "batches", call, value)
