"""Point 57: how soon what is held is held for ever."""

import itertools
import random
import unittest

from saidatonce.soon import is_ever_after, late_times, orders_for_ever
from saidatonce.steady import barring_walk, steady_length
from saidatonce.tables import Table
from saidatonce.times import are_times
from tests.odd import small_tables
from tests.slow import LETTERS, first_reach, great_table, product_reach, random_times, ring_of, slow_held

TABLE = Table(("a", "b", "c", "d"), ((0, 1, 1), (1, 2, 1), (2, 3, 1), (0, 2, 1), (3, 0, -9)))
BATCHES = [(), (1,), (2,), (3,), (4,), (1, 1), (1, 2), (2, 1), (1, 1, 1), (1, 3), (10,), (11,), (12,), (100,) * 60]
EVER = (100, 100)


def chain(count):
    return Table(tuple(LETTERS[:count]), tuple((at, at + 1, 1) for at in range(count - 1)))


class SoonCase(unittest.TestCase):
    def judge(self, table, batches):
        ring = barring_walk(table, 12)
        if ring is None:
            told = product_reach(batches) >= steady_length(table)
        else:
            told = first_reach(batches) >= len(ring)
        self.assertIs(is_ever_after(table, batches), told, (table.ties, batches))
        times = late_times(table, batches)
        self.assertEqual(times is None, told)
        if times is not None:
            self.assertTrue(are_times(table, times))
            self.assertTrue(slow_held(table, times, batches))
            self.assertFalse(slow_held(table, times, EVER))


class SoonTest(SoonCase):
    def test_the_example_of_the_document(self):
        told = orders_for_ever(TABLE), is_ever_after(TABLE, (1,)), is_ever_after(TABLE, (2,))
        self.assertEqual(told, (2, False, True))

    def test_chains(self):
        # steady from count - 1 ties on
        told = [orders_for_ever(chain(count)) for count in range(1, 13)]
        self.assertEqual(told, [0, 0, 1, 2, 2, 3, 3, 3, 3, 4, 4, 4])
        for count in range(1, 13):
            for size in range(1, 13):
                self.assertIs(is_ever_after(chain(count), (size,)), size + 1 >= count - 1)
                self.judge(chain(count), (size,))

    def test_rings_above_0(self):
        self.assertEqual(
            [orders_for_ever(Table(tuple(LETTERS[:count]), ring_of(count, 1))) for count in range(2, 13)],
            [2, 3, 3, 4, 4, 4, 4, 5, 5, 5, 5],
        )
        for count in range(2, 13):
            table = Table(tuple(LETTERS[:count]), ring_of(count, 1))
            for batches in BATCHES:
                self.assertIs(is_ever_after(table, batches), first_reach(batches) >= count)
                self.judge(table, batches)

    def test_with_rings_nothing_is_held_then(self):
        for table in small_tables(120, 3, 5, -2, 2, seed=57):
            if barring_walk(table, 12) is not None:
                for batches in BATCHES:
                    if is_ever_after(table, batches):
                        for times in itertools.product((None, -4, 0, 1, 5), repeat=len(table.things)):
                            self.assertFalse(slow_held(table, times, batches))

    def test_small_tables(self):
        for table in small_tables(200, 6, 10, -4, 2, seed=58):
            for batches in BATCHES:
                self.judge(table, batches)

    def test_the_least_number_of_orders(self):
        for table in small_tables(120, 6, 10, -4, 2, seed=59):
            least = orders_for_ever(table=table)
            for orders in range(7):
                self.assertIs(is_ever_after(table=table, batches=(1,) * orders), orders >= least)

    def test_against_many_times(self):
        """All times that are held for batches are held for ever, if it is told so."""
        chance = random.Random(60)
        for table in small_tables(100, 4, 7, -3, 2, seed=60):
            for _ in range(20):
                times = random_times(chance, table, 5, chance.choice((1, 2, 3)))
                for batches in BATCHES[:9]:
                    if is_ever_after(table, batches) and slow_held(table, times, batches):
                        self.assertTrue(slow_held(table, times, EVER))

    def test_great_tables(self):
        chance = random.Random(61)
        for least, most in ((-9, 1), (-10 ** 6, 10 ** 6), (-10 ** 6, -1), (-3, 0)):
            table = great_table(chance, least, most)
            for batches in BATCHES:
                self.judge(table, batches)
            self.assertTrue(orders_for_ever(table) <= 5)

    def test_without_ties(self):
        table = Table(tuple("abc"), ())
        self.assertEqual(orders_for_ever(table), 0)
        self.assertIsNone(late_times(table=table, batches=()))


if __name__ == "__main__":
    unittest.main()
