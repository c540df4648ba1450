"""Point 33: few ties, few orders."""

import random

from saidatonce.brief import fewest_ties, orders_that_beat
from saidatonce.held import Held, held, is_held
from saidatonce.tables import Table
from tests.checks import Checks
from tests.odd import small_tables
from tests.slow import (
    LETTERS, first_reach, game_keeps, great_table, here_things, missing_things, product_reach, random_times, ring_of,
    slow_rows,
)

RING = Table(("a", "b", "c", "d"), ((0, 1, 1), (1, 2, 1), (2, 3, 1), (3, 0, -2)))
NONE = (None,) * 4
BATCHES = [(), (1,), (2,), (3,), (1, 1), (1, 2), (2, 1), (1, 1, 1), (4,), (1, 9), (11,), (12,), (100,) * 60]


def is_short_of(table, times, batches, ties):
    """Whether some right Short or Barred has a walk of at most so many ties."""
    rows = slow_rows(table, min(ties, product_reach(batches)))
    around = slow_rows(table, min(ties, first_reach(batches)))
    here = here_things(times)
    if any(around[thing][thing] > 0 for thing in missing_things(times)):
        return True
    return any(
        rows[one][other] is not None and rows[one][other] > times[other] - times[one] for one in here for other in here
    )


class TiesTest(Checks):
    def judge(self, table, times, batches):
        count = len(table.things)
        told = [ties for ties in range(1, 2 * count + 2) if is_short_of(table, times, batches, ties)]
        fewest = fewest_ties(table, times, batches)
        self.assertEqual(fewest, min(told, default=None), (table.ties, times, batches))
        self.assertIs(fewest is None, is_held(table, times, batches))
        self.assertIs(fewest is None, isinstance(held(table, times, batches), Held))
        if fewest is not None:
            self.assertLess(fewest, 2 * count)

    def test_tie_by_tie(self):
        chance = random.Random(331)
        for table in small_tables(200, 6, 10, -4, 2, seed=331):
            times = random_times(chance, table)
            for batches in BATCHES:
                self.judge(table, times, batches)

    def test_great_tables(self):
        chance = random.Random(332)
        for least, most in ((-9, 1), (-10 ** 6, 10 ** 6), (-10 ** 6, -1), (-3, 0)):
            for share in (1, 2, 5):
                table = great_table(chance, least, most, 30)
                times = random_times(chance, table, 10 ** 6, share)
                for batches in BATCHES:
                    self.judge(table, times, batches)

    def test_a_short_and_a_ring(self):
        # the ring of b and c has 2 ties, the walk from a to d 3
        table = Table(tuple("abcd"), ((0, 1, 1), (1, 2, 1), (2, 3, 1), (2, 1, 0)))
        for times, batches, told in (
            ((0, None, None, 2), (2,), 2), ((0, None, None, 2), (1,), None), ((0, None, None, 2), (1, 1), 2),
            ((0, None, 2, 2), (1,), 1), ((0, None, 2, 3), (1,), 2), ((0, None, 2, 3), (), None), (NONE, (1,), None),
        ):
            self.assertEqual(fewest_ties(table, times, batches), told)

    def test_walks_longer_than_there_are_things(self):
        for exit_at in (1, 6, 11):
            ties = [(0, 1, 0)] + [(at, at + 1, 0) for at in range(1, 11)] + [(11, 1, 1), (exit_at, 0, 0)]
            table, times = Table(tuple(LETTERS), tuple(ties)), (0,) + (None,) * 11
            for batches in ((10,), (11,), (2, 6), (1, 1, 4), (1, 9), (1, 10)):
                self.judge(table, times, batches)

    def test_held_times(self):
        self.assertIsNone(fewest_ties(table=RING, times=NONE, batches=(1, 1)))
        self.assertEqual(fewest_ties(RING, NONE, (1, 1, 1)), 4)
        self.assertIsNone(fewest_ties(RING, NONE, ()))
        self.assertEqual(fewest_ties(RING, (0, 0, None, None), ()), 1)

    def test_errors(self):
        self.takes_times(RING, lambda times: fewest_ties(RING, times, ()))
        self.takes_times(RING, lambda times: fewest_ties(RING, times, None))
        self.takes_batches(lambda batches: fewest_ties(RING, (0, 0, 0, 0), batches))


class OrdersTest(Checks):
    def judge(self, table, times):
        told = [many for many in range(10) if not is_held(table, times, (1,) * many)]
        self.assertEqual(orders_that_beat(table, times), min(told, default=None))

    def test_the_example_of_the_document(self):
        self.assertEqual((orders_that_beat(RING, NONE), orders_that_beat(RING, (0, None, 2, None))), (3, 1))

    def test_all_numbers_of_orders(self):
        chance = random.Random(333)
        for table in small_tables(300, 7, 12, -4, 2, seed=333):
            self.judge(table, random_times(chance, table))
        for least, most in ((-9, 1), (-10 ** 6, 10 ** 6), (-10 ** 6, -1)):
            for share in (1, 2, 5):
                table = great_table(chance, least, most)
                self.judge(table, random_times(chance, table, 10 ** 6, share))

    def test_against_whole_games(self):
        chance = random.Random(334)
        for table in small_tables(60, 3, 5, -2, 2, seed=334):
            times = random_times(chance, table, 3, 3)
            told = [many for many in range(4) if not game_keeps(table, times, (1,) * many)]
            self.assertEqual(orders_that_beat(table, times), min(told, default=None))

    def test_a_broken_tie(self):
        self.assertEqual(orders_that_beat(RING, (0, 0, None, None)), 0)
        self.assertEqual(orders_that_beat(RING, (0, 1, None, None)), 2)
        self.assertEqual(orders_that_beat(table=RING, times=(0, 1, 1, None)), 0)

    def test_none(self):
        row = Table(tuple("abc"), ((0, 1, 1), (1, 2, 1)))
        self.assertIsNone(orders_that_beat(row, (0, None, 2)))
        self.assertIsNone(orders_that_beat(row, (None,) * 3))
        self.assertEqual(orders_that_beat(row, (0, None, 1)), 1)

    def test_five_orders_tell_for_12_things(self):
        table = Table(tuple(LETTERS), ring_of(12, 1))
        self.assertEqual(orders_that_beat(table, (None,) * 12), 5)
        row = Table(tuple(LETTERS), tuple((at, at + 1, 1) for at in range(11)))
        self.assertEqual(orders_that_beat(row, (0,) + (None,) * 10 + (10,)), 4)
        chance = random.Random(335)
        for table in small_tables(300, 12, 30, -9, 3, seed=335):
            told = orders_that_beat(table, random_times(chance, table, 20, 3))
            self.assertTrue(told is None or told <= 5)
            most = (len(table.things) - 1).bit_length()
            self.assertTrue(told is None or told <= 1 + most)

    def test_errors(self):
        self.takes_times(RING, lambda times: orders_that_beat(RING, times))
