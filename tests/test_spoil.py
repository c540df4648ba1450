"""Point 35: what spoils."""

import itertools
import random

from saidatonce.brief import fewest_ties
from saidatonce.held import is_held
from saidatonce.spoil import spoiling_lot
from saidatonce.tables import Table
from tests.checks import Checks
from tests.odd import keeps, small_tables
from tests.slow import (
    LETTERS, game_answers, game_keeps, great_table, random_times, ring_of, slow_held, window, with_times,
)

ROW = Table(("a", "b", "c", "d", "e"), ((0, 1, 1), (1, 2, 1), (2, 3, 1), (3, 4, 1)))
BATCHES = [(1,), (2,), (3,), (1, 1), (1, 2), (2, 1), (1, 1, 1), (2, 2)]


class SpoilTest(Checks):
    def lot_for(self, table, times, batches):
        lot = spoiling_lot(table, times, batches)
        self.assertIsInstance(lot, tuple)
        self.assertEqual(list(lot), sorted(set(lot)))
        self.assertTrue(all(times[thing] is None for thing in lot))
        self.assertLessEqual(len(lot), batches[0])
        return lot

    def test_the_example_of_the_document(self):
        times = (0, None, None, None, 3)
        self.assertEqual((spoiling_lot(ROW, times, (1, 1)), fewest_ties(ROW, times, (1, 1))), ((2,), 4))

    def test_no_times_in_a_wide_window(self):
        chance = random.Random(351)
        many = 0
        for table in small_tables(200, 4, 7, -2, 2, seed=351):
            times = random_times(chance, table, 3, 3)
            for batches in BATCHES:
                if is_held(table, times, batches):
                    self.refused("held", spoiling_lot, table, times, batches)
                    continue
                lot = self.lot_for(table, times, batches)
                low, high = window(table, times)
                if len(lot) < 3:
                    for told in itertools.product(range(low - 3, high + 4), repeat=len(lot)):
                        many += 1
                        self.assertFalse(is_held(table, with_times(times, lot, told), batches[1:]))
        self.assertGreater(many, 1000)

    def test_against_whole_games(self):
        chance = random.Random(352)
        for table in small_tables(80, 3, 5, -2, 2, seed=352):
            times = random_times(chance, table, 3, 3)
            for batches in BATCHES[:7]:
                if not game_keeps(table, times, batches):
                    lot = self.lot_for(table, times, batches)
                    self.assertFalse(game_answers(table, times, lot, batches[1:]))

    def test_again_and_again(self):
        chance = random.Random(353)
        for table in small_tables(200, 6, 10, -3, 2, seed=353):
            for batches in BATCHES + [(1, 1, 1, 1), (1, 1, 2), (5, 1)]:
                start = random_times(chance, table, 3, 3)
                if is_held(table, start, batches):
                    continue
                for _ in range(6):
                    times, left = start, batches
                    while left:
                        lot = self.lot_for(table, times, left)
                        times = with_times(times, lot, [chance.randint(-4, 6) for _ in lot])
                        left = left[1:]
                        self.assertFalse(slow_held(table, times, left))
                    self.assertFalse(keeps(table, times))

    def test_long_walks_and_rings(self):
        chance = random.Random(354)
        ring = Table(tuple(LETTERS), ring_of(12, 1))
        row = Table(tuple(LETTERS), tuple((at, at + 1, 1) for at in range(11)))
        for table, start in ((ring, (None,) * 12), (row, (0,) + (None,) * 10 + (10,)), (ring, (None, 3) * 6)):
            for batches in ((11,), (12,), (1, 11), (3, 3), (2, 1, 2), (1, 1, 1, 1, 1), (5, 1)):
                if not is_held(table, start, batches):
                    lot = self.lot_for(table, start, batches)
                    for _ in range(20):
                        behind = with_times(start, lot, [chance.randint(-3, 14) for _ in lot])
                        self.assertFalse(is_held(table, behind, batches[1:]))

    def test_great_tables(self):
        chance = random.Random(355)
        for least, most in ((-9, 1), (-10 ** 6, 10 ** 6)):
            for share in (1, 2, 5):
                table = great_table(chance, least, most)
                times = random_times(chance, table, 10 ** 6, share)
                for batches in BATCHES:
                    if not is_held(table, times, batches):
                        lot = self.lot_for(table, times, batches)
                        for _ in range(5):
                            behind = with_times(times, lot, [chance.randint(-10 ** 6, 10 ** 6) for _ in lot])
                            self.assertFalse(is_held(table, behind, batches[1:]))

    def test_nothing_need_come(self):
        # a tie is broken already, or all things of the walk have come
        self.assertEqual(self.lot_for(ROW, (0, 0, None, None, None), (1,)), ())
        self.assertEqual(self.lot_for(ROW, (0, 0, 0, 0, 0), (1, 1)), ())
        self.assertEqual(self.lot_for(ROW, (0, None, None, None, 3), (3,)), (1, 2, 3))

    def test_errors(self):
        self.takes_times(ROW, lambda times: spoiling_lot(ROW, times, ()))
        self.takes_times(ROW, lambda times: spoiling_lot(ROW, times, None))
        self.takes_batches(lambda batches: spoiling_lot(ROW, (0, 0, None, None, None), batches))
        # without batches, whether times are held or not
        for times in ((None,) * 5, (0, 0, None, None, None)):
            self.refused("batches", spoiling_lot, ROW, times, ())
        self.refused("held", spoiling_lot, ROW, (0, None, None, None, 4), (1, 1))
