"""Points 14, 15 and 16: days, courses, broken ties."""

import itertools
import random
import unittest

from saidatonce.days import (
    broken_ties, check_day, course_of, day_by, first_broken, fits_batches, is_batch, is_day, is_kept, lots_of,
    moved_day, said, times_of,
)
from saidatonce.errors import InvalidDay
from saidatonce.tables import Table
from tests.odd import Sour, Yes, keeps, odd_values, small_tables

TABLE = Table(("a", "b", "c", "d"), ((0, 1, 1), (1, 2, 1), (3, 0, -2), (0, 1, -5)))
TIMES = (0, None, None, 7)
NONE = (None,) * 4
FAR = 10 ** 9
DAY = (((1, 4), (3, 2)), ((0, 3),))
WRONG_PAIRS = [
    (1,), (1, 2, 3), [1, 2], (True, 2), (1, True), (1, False), (1.0, 2), (1, 2.0), ("1", 2), (1, "2"), (1, None),
    (None, 1), (4, 0), (-1, 0), (1, FAR + 1), (1, -FAR - 1), (10 ** 400, 0), (1, 10 ** 400), (1, (2,)), (1, [2]),
    (Sour(), 1), (Yes(), 1), (1, Sour()), (1, Yes()), 1, "12", b"12", None,
]


def random_day(chance, table, wild=9):
    """A day on which some things come in any batches."""
    things = list(range(len(table.things)))
    chance.shuffle(things)
    things = things[:chance.randint(0, len(things))]
    day = []
    while things:
        size = chance.randint(1, len(things))
        day.append(tuple((thing, chance.randint(-wild, wild)) for thing in sorted(things[:size])))
        things = things[size:]
    return tuple(day)


class BatchTest(unittest.TestCase):
    def test_batches(self):
        for value in (((1, 5),), ((2, -3),), ((1, 5), (2, 5)), ((1, 5), (2, -9))):
            self.assertIs(is_batch(TABLE, TIMES, value), True)
        self.assertIs(is_batch(TABLE, NONE, ((0, 0), (1, 0), (2, 0), (3, 0))), True)
        self.assertIs(is_batch(table=TABLE, times=TIMES, value=((1, 0),)), True)

    def test_ties_may_be_broken(self):
        self.assertIs(is_batch(TABLE, TIMES, ((1, -99),)), True)

    def test_none(self):
        self.assertIs(is_batch(TABLE, TIMES, ()), False)

    def test_pairs_that_descend(self):
        self.assertIs(is_batch(TABLE, TIMES, ((2, 5), (1, 5))), False)
        self.assertIs(is_batch(TABLE, NONE, ((0, 1), (2, 5), (1, 9))), False)

    def test_a_thing_twice(self):
        for value in (((1, 5), (1, 5)), ((1, 5), (1, 6)), ((1, 6), (1, 5)), ((1, 5), (2, 1), (2, 3))):
            self.assertIs(is_batch(TABLE, TIMES, value), False)

    def test_a_thing_that_has_come(self):
        for value in (((0, 5),), ((3, 7),), ((0, 0), (1, 0)), ((1, 0), (2, 0), (3, 0))):
            self.assertIs(is_batch(TABLE, TIMES, value), False)

    def test_times_at_their_ends(self):
        for time in (FAR, -FAR, 0):
            self.assertIs(is_batch(TABLE, TIMES, ((1, time),)), True)
        for time in (FAR + 1, -FAR - 1):
            self.assertIs(is_batch(TABLE, TIMES, ((1, time),)), False)
            self.assertIs(is_batch(TABLE, TIMES, ((1, 0), (2, time))), False)

    def test_no_pairs(self):
        for pair in WRONG_PAIRS + odd_values():
            self.assertIs(is_batch(TABLE, NONE, (pair,)), False)
            self.assertIs(is_batch(TABLE, NONE, ((0, 0), pair)), False)
            self.assertIs(is_batch(TABLE, NONE, (pair, (3, 0))), False)

    def test_other_values(self):
        for value in odd_values() + [[(1, 5)], (1, 5), 5, "ab", {1: 5}]:
            self.assertIs(is_batch(TABLE, TIMES, value), False)
        self.assertIs(is_batch(TABLE, NONE, ([0, 1],)), False)


class CheckTest(unittest.TestCase):
    def invalid(self, at, value, table=TABLE):
        with self.assertRaises(InvalidDay) as caught:
            check_day(table, value)
        self.assertEqual(caught.exception.at, at)
        self.assertIs(is_day(table, value), False)
        self.assertIs(is_day(table, value, False), False)

    def test_days(self):
        for value in ((), DAY, (((0, 0), (1, 1), (2, 2), (3, 3)),), (((3, 1),), ((2, 1),), ((1, 1),), ((0, 1),))):
            self.assertIsNone(check_day(TABLE, value))
            self.assertIs(is_day(TABLE, value, False), True)
        self.assertIsNone(check_day(table=TABLE, value=()))

    def test_no_tuple_and_more_items_than_things(self):
        for value in odd_values() + [list(DAY), {}, "", 0]:
            if not (isinstance(value, tuple) and len(value) <= 4):
                self.invalid(-1, value)
        self.invalid(-1, (((0, 0),), ((1, 0),), ((2, 0),), ((3, 0),), ((0, 0),)))
        self.invalid(-1, ((),) * 5)
        self.invalid(0, ((),) * 4)
        self.invalid(-1, (((0, 0),), ((0, 0),)), Table(("a",), ()))
        self.assertIsNone(check_day(Table(("a",), ()), (((0, 0),),)))

    def test_the_first_item_that_is_no_batch(self):
        self.invalid(0, ((),))
        self.invalid(1, (((0, 0),), ()))
        self.invalid(2, (((0, 0),), ((1, 0),), ((4, 0),), ()))
        self.invalid(0, (((2, 0), (1, 0)), ()))

    def test_things_come_once(self):
        self.invalid(1, (((0, 0),), ((0, 0),)))
        self.invalid(1, (((0, 0), (2, 0)), ((1, 0), (2, 5))))
        self.invalid(2, (((0, 0),), ((1, 0),), ((0, 9),)))
        self.invalid(3, (((0, 0),), ((1, 0),), ((2, 9),), ((1, 0),)))

    def test_other_items(self):
        for value in odd_values():
            self.invalid(0, (value,))
            self.invalid(1, (((0, 0),), value, ()))
            self.invalid(2, (((0, 0),), ((1, 0),), (value,)))
        for pair in WRONG_PAIRS:
            self.invalid(0, ((pair,),))
            self.invalid(1, (((3, 0),), ((0, 0), pair)))


class CourseTest(unittest.TestCase):
    def test_said(self):
        self.assertEqual(said(TIMES, ()), TIMES)
        self.assertEqual(said(TIMES, ((1, 5), (2, -6))), (0, 5, -6, 7))
        self.assertEqual(said(times=TIMES, pairs=((2, 5),)), (0, None, 5, 7))

    def test_said_in_place_of_times(self):
        self.assertEqual(said(TIMES, ((0, 9),)), (9, None, None, 7))
        self.assertEqual(said(TIMES, ((3, 1), (1, 2), (0, 0))), (0, 2, None, 1))
        self.assertEqual(said((1, 2), ((1, 10 ** 12),)), (1, 10 ** 12))

    def test_course(self):
        self.assertEqual(course_of(TABLE, ()), (NONE,))
        behind = (None, 4, None, 2)
        self.assertEqual(course_of(TABLE, DAY), (NONE, behind, (3, 4, None, 2)))
        self.assertEqual(course_of(table=TABLE, day=DAY[:1]), (NONE, behind))
        self.assertEqual(times_of(TABLE, DAY), (3, 4, None, 2))
        self.assertEqual(times_of(table=TABLE, day=()), NONE)

    def test_any_courses(self):
        chance = random.Random(15)
        for table in small_tables(100, 5, 3, seed=15):
            day = random_day(chance, table)
            course = course_of(table, day)
            self.assertEqual(len(course), len(day) + 1)
            self.assertEqual(course[0], (None,) * len(table.things))
            for at, batch in enumerate(day):
                told = dict(batch)
                self.assertEqual(course[at + 1], tuple(told.get(n, time) for n, time in enumerate(course[at])))
            self.assertEqual(times_of(table, day), course[-1])

    def test_lots_and_back(self):
        self.assertEqual(lots_of(DAY), ((1, 3), (0,)))
        self.assertEqual(lots_of(day=()), ())
        self.assertEqual(day_by(((1, 3), (0,)), (3, 4, 9, 2)), DAY)
        self.assertEqual(day_by(lots=(), times=(3, 4)), ())
        self.assertEqual(day_by(((0,), (1, 2)), (5, -5, 0)), (((0, 5),), ((1, -5), (2, 0))))
        chance = random.Random(16)
        for table in small_tables(100, 6, 3, seed=16):
            day = random_day(chance, table)
            self.assertEqual(day_by(lots_of(day), times_of(table, day)), day)
            self.assertEqual(lots_of(day_by(lots_of(day), (0,) * len(table.things))), lots_of(day))

    def test_moved(self):
        self.assertEqual(moved_day(DAY, 10), (((1, 14), (3, 12)), ((0, 13),)))
        self.assertEqual(moved_day(day=DAY, by=-4), (((1, 0), (3, -2)), ((0, -1),)))
        self.assertEqual(moved_day(DAY, 0), DAY)
        self.assertEqual(moved_day((), 5), ())
        self.assertEqual(moved_day((((0, FAR),),), FAR), (((0, 2 * FAR),),))

    def test_fits(self):
        self.assertIs(fits_batches(DAY, (2, 1)), True)
        self.assertIs(fits_batches(DAY, (3, 1, 1)), True)
        self.assertIs(fits_batches(day=DAY, batches=(100,) * 60), True)
        self.assertIs(fits_batches((), ()), True)
        self.assertIs(fits_batches((), (1,)), True)

    def test_too_many_batches(self):
        self.assertIs(fits_batches(DAY, (2,)), False)
        self.assertIs(fits_batches(DAY, (100,)), False)
        self.assertIs(fits_batches(DAY, ()), False)
        self.assertIs(fits_batches((((0, 1),),), ()), False)

    def test_a_batch_that_is_too_great(self):
        self.assertIs(fits_batches(DAY, (1, 2)), False)
        self.assertIs(fits_batches(DAY, (1, 100)), False)
        self.assertIs(fits_batches((((0, 1),), ((1, 1), (2, 1))), (2, 1)), False)
        self.assertIs(fits_batches((((0, 1),), ((1, 1), (2, 1))), (1, 2)), True)


class BrokenTest(unittest.TestCase):
    def test_just_kept_and_just_broken(self):
        table = Table(("a", "b"), ((0, 1, 3), (1, 0, -5)))
        for apart, broken in ((2, (0,)), (3, ()), (4, ()), (5, ()), (6, (1,))):
            for begin in (0, -7, FAR - 6):
                self.assertEqual(broken_ties(table, (begin, begin + apart)), broken)
                self.assertIs(is_kept(table, (begin, begin + apart)), broken == ())

    def test_things_that_have_not_come(self):
        table = Table(("a", "b", "c"), ((0, 1, 3), (1, 2, 3), (0, 2, 9)))
        for times in ((None,) * 3, (5, None, None), (None, 5, None), (None, None, 5), (0, None, 9)):
            self.assertEqual(broken_ties(table, times), ())
            self.assertIs(is_kept(table, times), True)
        self.assertEqual(broken_ties(table, (0, None, 8)), (2,))
        self.assertEqual(broken_ties(table=table, times=(0, 0, None)), (0,))
        self.assertEqual(broken_ties(table, (0, 0, 0)), (0, 1, 2))
        self.assertIs(is_kept(table=table, times=(0, 0, 0)), False)

    def test_all_small_times(self):
        for table in small_tables(30, 3, 5, seed=17):
            for times in itertools.product((None, -1, 0, 2), repeat=len(table.things)):
                numbers = tuple(
                    number for number, tie in enumerate(table.ties)
                    if not keeps(Table(table.things, (tie,)), times)
                )
                self.assertEqual(broken_ties(table, times), numbers)
                self.assertIs(is_kept(table, times), keeps(table, times))

    def test_first_broken(self):
        table = Table(("a", "b", "c"), ((0, 1, 3), (1, 2, 3)))
        self.assertIsNone(first_broken(table, ()))
        self.assertIsNone(first_broken(table, (((0, 0),), ((2, 0),))))
        self.assertIsNone(first_broken(table, (((0, 0),), ((2, 6),), ((1, 3),))))
        self.assertEqual(first_broken(table, (((0, 0),), ((2, 5),), ((1, 3),))), 2)
        self.assertEqual(first_broken(table, (((0, 0), (1, 2)), ((2, 5),))), 0)
        self.assertEqual(first_broken(table=table, day=(((0, 0),), ((1, 2),), ((2, 5),))), 1)

    def test_any_days(self):
        chance = random.Random(18)
        found = set()
        for table in small_tables(600, 4, 5, seed=18):
            day = random_day(chance, table, 4)
            course = course_of(table, day)
            broken = [at for at in range(len(day)) if not keeps(table, course[at + 1])]
            self.assertEqual(first_broken(table, day), broken[0] if broken else None)
            self.assertIs(is_day(table, day), not broken)
            self.assertIs(is_day(table, day, True), not broken)
            self.assertIs(is_day(table, day, False), True)
            found.add(broken[0] if broken else None)
        self.assertTrue(found >= {None, 0, 1, 2})

    def test_is_day(self):
        table = Table(("a", "b"), ((0, 1, 3),))
        kept, broken = (((0, 0),), ((1, 3),)), (((0, 0),), ((1, 2),))
        self.assertIs(is_day(table, kept), True)
        self.assertIs(is_day(table, broken), False)
        self.assertIs(is_day(table=table, value=kept, kept=True), True)
        self.assertIs(is_day(table=table, value=broken, kept=True), False)
        self.assertIs(is_day(table=table, value=broken, kept=False), True)
        self.assertIs(is_day(table, ()), True)


if __name__ == "__main__":
    unittest.main()
