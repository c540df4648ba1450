"""Point 50: limits."""

import random
import unittest

from saidatonce.errors import InvalidNumber, InvalidTimes
from saidatonce.limits import is_within, limits
from saidatonce.tables import Table
from tests.odd import Sour, Yes, odd_values, small_tables
from tests.slow import (
    LETTERS, first_reach, game_keeps, great_table, here_things, missing_things, product_reach, random_times, ring_of,
    slow_held, slow_rows, slow_walks,
)

ROW = Table(("a", "b", "c", "d", "e"), ((0, 1, 1), (1, 2, 1), (2, 3, 1), (3, 4, 1)))
BATCHES = [(), (1,), (2,), (3,), (1, 1), (1, 2), (2, 1), (1, 1, 1), (3, 2), (1, 1, 1, 1), (11,), (12,), (100,) * 60]


def slow_limits(table, times):
    """The limits by rows of more and more ties."""
    count, here, gone = len(table.things), here_things(times), missing_things(times)
    far = around = None
    for ties in range(2 * count, 0, -1):
        rows = slow_rows(table, ties)
        if any(
            rows[one][other] is not None and rows[one][other] > times[other] - times[one]
            for one in here for other in here
        ):
            far = ties
        if ties <= count and any(rows[thing][thing] > 0 for thing in gone):
            around = ties
    return far, around


class LimitsTest(unittest.TestCase):
    def test_the_example_of_the_document(self):
        table = Table(tuple(LETTERS[:9]), ring_of(9, 1))
        self.assertEqual(limits(table, (None,) * 9), (None, 9))

    def test_a_row(self):
        self.assertEqual(limits(ROW, (0, None, None, None, 3)), (4, None))
        self.assertEqual(limits(ROW, (0, None, None, None, 4)), (None, None))
        self.assertEqual(limits(ROW, (0, 0, None, None, None)), (1, None))
        self.assertEqual(limits(ROW, (5, None, 6, None, 7)), (2, None))
        self.assertEqual(limits(table=ROW, times=(5, None, None, 7, 7)), (1, None))

    def test_nothing_and_all(self):
        self.assertEqual(limits(ROW, (None,) * 5), (None, None))
        self.assertEqual(limits(ROW, (0, 1, 2, 3, 4)), (None, None))
        self.assertEqual(limits(ROW, (0, 1, 2, 3, 3)), (1, None))

    def test_one_thing(self):
        self.assertEqual(limits(Table(("a",), ()), (None,)), (None, None))
        self.assertEqual(limits(Table(("a",), ()), (7,)), (None, None))

    def test_closed_walks_of_what_has_come(self):
        ring = Table(("a", "b", "c"), ring_of(3, 1))
        self.assertEqual(limits(ring, (0, None, None)), (3, 3))
        self.assertEqual(limits(ring, (0, 5, None)), (2, 3))
        self.assertEqual(limits(Table(("a", "b", "c"), ring_of(3, 0)), (0, None, None)), (None, None))

    def test_rings_that_pass_only_what_has_come(self):
        table = Table(("a", "b", "c"), ((0, 1, 1), (1, 0, 0), (1, 2, 0)))
        self.assertEqual(limits(table, (0, 1, None)), (1, None))
        self.assertEqual(limits(table, (0, None, None)), (2, 2))
        self.assertEqual(limits(table, (None, None, 0)), (None, 2))

    def test_walks_longer_than_there_are_things(self):
        # from thing 0 around a ring of 11, and some ties farther, before the way back weighs more than 0
        for exit_at in range(1, 12):
            ties = [(0, 1, 0)] + [(at, at + 1, 0) for at in range(1, 11)] + [(11, 1, 1), (exit_at, 0, 0)]
            table = Table(tuple(LETTERS), tuple(ties))
            self.assertEqual(limits(table, (0,) + (None,) * 11), (12 + exit_at, 11))

    def test_against_rows_of_more_and_more_ties(self):
        chance = random.Random(50)
        for table in small_tables(250, 5, 9, -3, 2, seed=50):
            times = random_times(chance, table)
            self.assertEqual(limits(table, times), slow_limits(table, times), (table.ties, times))

    def test_against_whole_walks(self):
        chance = random.Random(51)
        for table in small_tables(60, 3, 4, -3, 2, seed=51):
            times = random_times(chance, table)
            found = slow_walks(table, 2 * len(table.things))
            heavy = [
                len(walk) for walk, one, other, weight in found
                if times[one] is not None and times[other] is not None and weight > times[other] - times[one]
            ]
            barred = [
                len(walk) for walk, one, other, weight in found
                if one == other and times[one] is None and weight > 0 and len(walk) <= len(table.things)
            ]
            self.assertEqual(limits(table, times), (min(heavy, default=None), min(barred, default=None)))

    def test_great_tables(self):
        chance = random.Random(52)
        for least, most in ((-10 ** 6, 10 ** 6), (-9, -1), (-2, 1), (-5, 1)):
            table = great_table(chance, least, most)
            for share in (1, 2, 6):
                times = random_times(chance, table, share=share)
                self.assertEqual(limits(table, times), slow_limits(table, times))
        far = 10 ** 9
        ends = (-far, far) + (None,) * 10
        self.assertEqual(limits(Table(tuple(LETTERS), ((0, 1, 10 ** 6), (1, 0, -10 ** 6))), ends), (1, None))


class WithinTest(unittest.TestCase):
    def test_at_the_limits_and_one_beside(self):
        for batches in BATCHES:
            far, around = product_reach(batches), first_reach(batches)
            for one, held in ((None, True), (far + 1, True), (far, False), (far - 1, False), (0, False)):
                for other, kept in ((None, True), (around + 1, True), (around, False), (0, False)):
                    self.assertIs(is_within((one, other), batches), held and kept)
        self.assertIs(is_within(pair=(3, 2), batches=(1,)), True)

    def test_nothing_is_too_great_for_none(self):
        self.assertIs(is_within((None, None), (100,) * 60), True)

    def test_times_are_held_exactly_within_their_limits(self):
        chance = random.Random(53)
        for table in small_tables(120, 5, 9, -3, 2, seed=53):
            times = random_times(chance, table)
            for batches in BATCHES:
                if product_reach(batches) < 100:
                    self.assertIs(is_within(limits(table, times), batches), slow_held(table, times, batches))

    def test_against_whole_games(self):
        chance = random.Random(54)
        for table in small_tables(40, 3, 5, -2, 2, seed=54):
            times = random_times(chance, table, 4)
            for batches in ((), (1,), (2,), (1, 1), (3,), (2, 1)):
                self.assertIs(is_within(limits(table, times), batches), game_keeps(table, times, batches))


class RaisedTest(unittest.TestCase):
    def test_times(self):
        for value in odd_values() + [[0] * 5, (0,) * 4, (0,) * 6]:
            with self.assertRaises(InvalidTimes) as caught:
                limits(ROW, value)
            self.assertEqual(caught.exception.at, -1)
        for wrong in (True, 1.0, "1", (1,), 10 ** 9 + 1, -10 ** 9 - 1, Sour(), Yes()):
            with self.assertRaises(InvalidTimes) as caught:
                limits(ROW, (0, None, wrong, 1, False))
            self.assertEqual(caught.exception.at, 2)
        self.assertEqual(limits(ROW, (-10 ** 9, None, None, None, 10 ** 9)), (None, None))

    def test_batches(self):
        for value in odd_values() + [[1], (0,), (101,), (True,), (1,) * 61, 1, (1, 0), (1.0,), (Sour(),), (Yes(),)]:
            with self.assertRaises(InvalidNumber) as caught:
                is_within((None, None), value)
            self.assertEqual(caught.exception.word, "batches")


if __name__ == "__main__":
    unittest.main()
