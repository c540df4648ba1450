"""Point 39: harmless hours."""

import random

from saidatonce.days import said
from saidatonce.harmless import harmless_hours
from saidatonce.ranges import all_hours, hours_for
from saidatonce.tables import Table
from tests.checks import NO_INTEGERS, Checks
from tests.odd import odd_values, small_tables
from tests.slow import great_table, random_times, ring_of

ROW = Table(("a", "b", "c", "d", "e"), ((0, 1, 1), (1, 2, 1), (2, 3, 1), (3, 4, 1)))
TIMES = (0, None, None, None, 6)
BATCHES = [(), (1,), (2,), (3,), (1, 1), (1, 2), (2, 1), (1, 1, 1), (12,), (100,) * 60]


def inside(hours, hour):
    if hours is None:
        return False
    return (hours[0] is None or hours[0] <= hour) and (hours[1] is None or hour <= hours[1])


class HarmlessTest(Checks):
    def is_harmless(self, table, times, batches, thing, hour):
        """By the words of the document."""
        before = all_hours(table, times, batches)
        if not inside(before[thing], hour):
            return False
        behind = all_hours(table, said(times, ((thing, hour),)), batches)
        return all(
            before[other] == behind[other] for other, time in enumerate(times) if time is None and other != thing
        )

    def judge(self, table, times, batches, hours_to_try):
        for thing in [at for at, time in enumerate(times) if time is None]:
            told = harmless_hours(table, times, batches, thing)
            self.assertTrue(told is None or isinstance(told, tuple) and len(told) == 2)
            ends = [end for end in told or () if end is not None]
            ends += [end for end in hours_for(table, times, batches, thing) or () if end is not None]
            for hour in list(hours_to_try) + [end + by for end in ends for by in (-1, 0, 1)]:
                right = self.is_harmless(table, times, batches, thing, hour)
                self.assertIs(inside(told, hour), right, (table.ties, times, batches, thing, hour, told))

    def test_the_example_of_the_document(self):
        self.assertEqual(harmless_hours(ROW, TIMES, (3,), 1), (1, 1))

    def test_hour_by_hour(self):
        chance = random.Random(391)
        for table in small_tables(120, 4, 6, -4, 2, seed=391):
            times = random_times(chance, table)
            for batches in BATCHES:
                self.judge(table, times, batches, range(-12, 18))

    def test_more_things(self):
        chance = random.Random(392)
        for table in small_tables(60, 7, 9, -6, 1, seed=392):
            times = random_times(chance, table, 9, 3)
            for batches in BATCHES:
                self.judge(table, times, batches, (-10 ** 8, -9, 0, 4, 9, 10 ** 8))

    def test_great_tables(self):
        chance = random.Random(393)
        for least, most in ((-10 ** 6, -1), (-3, 0), (-100, 1)):
            table = great_table(chance, least, most, 15)
            for share in (2, 4):
                times = random_times(chance, table, 10, share)
                for batches in ((), (1, 1), (12,)):
                    self.judge(table, times, batches, (-10 ** 8, 0, 10 ** 8))

    def test_ends(self):
        # whatever is said for c bounds b and d
        self.assertIsNone(harmless_hours(ROW, TIMES, (), 2))
        self.assertIsNone(harmless_hours(ROW, (None,) * 5, (), 1))
        self.assertIsNone(harmless_hours(ROW, TIMES, (3,), 2))
        # early enough for d, late enough for b
        self.assertEqual(harmless_hours(table=ROW, times=TIMES, batches=(3,), thing=3), (5, 5))
        self.assertEqual(harmless_hours(ROW, (0, 1, None, 4, 6), (), 2), (2, 3))
        self.assertEqual(harmless_hours(ROW, (0, None, 2, None, None), (), 1), (1, 1))
        self.assertEqual(harmless_hours(ROW, (0, 1, 2, 3, None), (), 4), (4, None))
        self.assertEqual(harmless_hours(Table(("a", "b"), ()), (None, None), (5,), 1), (None, None))

    def test_no_hours(self):
        self.assertIsNone(harmless_hours(ROW, (0, None, None, None, 3), (3,), 1))
        self.assertIsNone(harmless_hours(Table(tuple("abc"), ring_of(3, 1)), (None,) * 3, (3,), 1))

    def test_others_without_hours(self):
        # neither a nor b has hours, before and behind
        table = Table(tuple("abc"), ((0, 1, 1), (1, 0, 0), (2, 0, 1)))
        times = (None, None, None)
        self.assertEqual(all_hours(table, times, (1,)), (None, None, (None, None)))
        self.assertEqual(harmless_hours(table, times, (1,), 2), (None, None))
        self.judge(table, times, (1,), range(-5, 5))

    def test_a_thing_that_has_come(self):
        for thing in (0, 4):
            self.refused("thing", harmless_hours, ROW, TIMES, (), thing)

    def test_errors(self):
        for thing in (0, 2, None):
            for batches in ((), None):
                self.takes_times(ROW, lambda times: harmless_hours(ROW, times, batches, thing))
            self.takes_batches(lambda batches: harmless_hours(ROW, TIMES, batches, thing))
        for thing in odd_values() + NO_INTEGERS + [5, -1, 10 ** 400]:
            self.refused("thing", harmless_hours, ROW, TIMES, (), thing)
