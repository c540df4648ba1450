"""Points 8 and 9: times, batches, times moved, turned and stretched."""

import itertools
import unittest

from saidatonce.errors import InvalidNumber, InvalidTimes
from saidatonce.tables import Table, renamed_table
from saidatonce.times import (
    are_batches, are_times, check_batches, check_times, come, missing, moved_times, nothing_said, placed_times,
    stretched_times, times_without, turned_times,
)
from tests.odd import Sour, Yes, keeps, odd_values, small_tables

BILLION = 10 ** 9
TABLE = Table(("a", "b", "c"), ((0, 1, 5),))


class CheckTest(unittest.TestCase):
    def right(self, value):
        self.assertIs(are_times(TABLE, value), True)
        self.assertIsNone(check_times(TABLE, value))

    def wrong(self, value, at):
        self.assertIs(are_times(TABLE, value), False)
        with self.assertRaises(InvalidTimes) as caught:
            check_times(TABLE, value)
        self.assertEqual(caught.exception.at, at)

    def test_times(self):
        for value in ((None, None, None), (0, 0, 0), (9, 1, None), (None, -3, 4), (7, None, None)):
            self.right(value)

    def test_at_the_ends(self):
        for at in range(3):
            for time in (-BILLION, BILLION):
                self.right((0,) * at + (time,) + (None,) * (2 - at))
            for time in (-BILLION - 1, BILLION + 1, 10 ** 400, -10 ** 400):
                self.wrong((0,) * at + (time,) + (None,) * (2 - at), at)

    def test_no_tuple_with_an_item_for_each_thing(self):
        for value in ((), (0,), (0, 0), (0, 0, 0, 0), (None,) * 4, [0, 0, 0], [None] * 3, "abc", b"abc", 0, 3,
                      {0: 0, 1: 0, 2: 0}, (True, True)):
            self.wrong(value, -1)
        for value in odd_values():
            self.wrong(value, -1)

    def test_wrong_items(self):
        items = [True, False, 0.0, 1.5, "0", "", (), (0,), [], Sour(), Yes()]
        items += [value for value in odd_values() if value is not None]
        for item in items:
            for at in range(3):
                self.wrong((0,) * at + (item,) + (0,) * (2 - at), at)
                self.wrong((None,) * at + (item,) * (3 - at), at)

    def test_the_first_one_is_named(self):
        self.wrong((0, True, "x"), 1)
        self.wrong((None, BILLION + 1, -BILLION - 1), 1)
        self.wrong(("x", True, None), 0)

    def test_other_tables(self):
        for count in (1, 2, 12):
            table = Table(tuple("abcdefghijkl"[:count]), ())
            for many in range(14):
                self.assertIs(are_times(table, (0,) * many), many == count)

    def test_by_name(self):
        self.assertIsNone(check_times(table=TABLE, value=(0, 0, 0)))
        self.assertIs(are_times(table=TABLE, value=(0, 0)), False)


class BatchesTest(unittest.TestCase):
    def right(self, value):
        self.assertIs(are_batches(value), True)
        self.assertIsNone(check_batches(value))

    def wrong(self, value):
        self.assertIs(are_batches(value), False)
        with self.assertRaises(InvalidNumber) as caught:
            check_batches(value)
        self.assertEqual(caught.exception.word, "batches")

    def test_numbers_at_their_ends(self):
        for size in (1, 2, 99, 100):
            self.right((size,))
            self.right((1, size, 100))
        for size in (0, -1, 101, 10 ** 400, True, False, 1.0, "1", None, (1,), Sour(), Yes()):
            self.wrong((size,))
            self.wrong((1, size, 100))
            self.wrong((1, 100, size))

    def test_how_many(self):
        for many in (0, 1, 2, 59, 60):
            self.right((1,) * many)
            self.right((100,) * many)
        for many in (61, 62, 1000):
            self.wrong((1,) * many)

    def test_any_value(self):
        for value in odd_values() + [[1], [], "1", 1, 0, {1: 1}, b"\x01"]:
            self.wrong(value)

    def test_by_name(self):
        self.assertIs(are_batches(value=()), True)
        self.assertIsNone(check_batches(value=(1,)))


class ComeTest(unittest.TestCase):
    def test_nothing_said(self):
        self.assertEqual(nothing_said(TABLE), (None, None, None))
        self.assertEqual(nothing_said(Table(("a",), ())), (None,))

    def test_come_and_missing(self):
        self.assertEqual(come((3, None, -1, 0)), (0, 2, 3))
        self.assertEqual(missing((3, None, -1, 0)), (1,))
        self.assertEqual((come((None, None)), missing((None, None))), ((), (0, 1)))
        self.assertEqual((come((0, 0)), missing((0, 0))), ((0, 1), ()))

    def test_each_thing_has_come_or_not(self):
        for times in itertools.product((None, 0, 5), repeat=4):
            self.assertEqual(sorted(come(times) + missing(times)), [0, 1, 2, 3])
            self.assertEqual(come(times), tuple(at for at in range(4) if times[at] is not None))
            self.assertEqual(missing(times), tuple(at for at in range(4) if times[at] is None))

    def test_placed_times(self):
        self.assertEqual(placed_times((3, None, -1, 0), (2, 1, 3, 0)), (0, None, 3, -1))
        self.assertEqual(placed_times((7, 8, 9), (1, 2, 0)), (9, 7, 8))
        self.assertEqual(placed_times((7, None), (0, 1)), (7, None))
        table = Table(("a", "b", "c"), ())
        new, places = renamed_table(table, ("z", "x", "y"))
        self.assertEqual(placed_times(times=(1, 2, None), places=places), (2, None, 1))
        self.assertEqual(new.things, ("x", "y", "z"))

    def test_times_without(self):
        self.assertEqual(times_without((3, None, -1, 0), (1, 2)), (3, 0))
        self.assertEqual(times_without((3, None, -1, 0), ()), (3, None, -1, 0))
        self.assertEqual(times_without((3, None, -1, 0), (0,)), (None, -1, 0))
        self.assertEqual(times_without(times=(3, None), things=(0, 1)), ())


class MovedTest(unittest.TestCase):
    def test_moved(self):
        self.assertEqual(moved_times((3, None, -1, 0), 2), (5, None, 1, 2))
        self.assertEqual(moved_times((3, None, -1, 0), -3), (0, None, -4, -3))
        self.assertEqual(moved_times((3, None, -1, 0), 0), (3, None, -1, 0))
        self.assertEqual(moved_times((None, None), 7), (None, None))
        self.assertEqual(moved_times(times=(BILLION,), by=BILLION), (2 * BILLION,))

    def test_turned(self):
        self.assertEqual(turned_times((3, None, -1, 0)), (-3, None, 1, 0))
        self.assertEqual(turned_times((None,)), (None,))

    def test_stretched(self):
        self.assertEqual(stretched_times((3, None, -1, 0), 4), (12, None, -4, 0))
        self.assertEqual(stretched_times((3, None, -1, 0), 1), (3, None, -1, 0))
        self.assertEqual(stretched_times((3, None, -1, 0), 0), (0, None, 0, 0))
        self.assertEqual(stretched_times(times=(BILLION, -2), factor=BILLION), (BILLION * BILLION, -2 * BILLION))

    def test_moved_times_are_kept_as_before(self):
        for table in small_tables(20, 3, 6, seed=9):
            for times in itertools.product((None, -2, -1, 0, 1, 2), repeat=len(table.things)):
                for by in (-7, 0, 1):
                    self.assertEqual(keeps(table, times), keeps(table, moved_times(times, by)))


if __name__ == "__main__":
    unittest.main()
