"""Point 53: batches as hard as others."""

import itertools
import random
import unittest

from saidatonce.errors import InvalidNumber
from saidatonce.tables import Table
from saidatonce.telling import is_as_hard, telling_case
from saidatonce.times import are_times
from tests.odd import Sour, Yes, odd_values, small_tables
from tests.slow import first_reach, game_keeps, product_reach, random_times, slow_held

NO_BATCHES = [[1], (0,), (101,), (True,), (1,) * 61, 1, (1, 0), (1.0,), (Sour(),), (Yes(),)]


def all_batches(most, longest=4):
    """All batches with an N that is not above a number."""
    return [
        sizes for many in range(longest + 1) for sizes in itertools.product(range(1, most), repeat=many)
        if product_reach(sizes) <= most
    ]


def slow_as_hard(one, other):
    """By the words of the point."""
    rings = first_reach(one) >= first_reach(other) or first_reach(one) >= 12
    return rings and (product_reach(one) >= product_reach(other) or first_reach(one) >= 11)


class TellingCase(unittest.TestCase):
    def judge(self, one, other):
        hard, case = is_as_hard(one, other), telling_case(one, other)
        self.assertIs(hard, slow_as_hard(one, other), (one, other))
        if hard:
            self.assertIsNone(case, (one, other))
            return
        self.assertIsInstance(case, tuple)
        table, times = case
        self.assertIsInstance(table, Table)
        self.assertTrue(are_times(table, times))
        self.assertTrue(slow_held(table, times, one), (one, other))
        self.assertFalse(slow_held(table, times, other), (one, other))


class PairsTest(TellingCase):
    def test_none_and_one(self):
        self.assertIs(is_as_hard((), ()), True)
        self.assertIs(is_as_hard((1,), ()), True)
        self.assertIs(is_as_hard((), (1,)), False)
        for one, other in itertools.product(((), (1,), (2,), (1, 1)), repeat=2):
            self.judge(one, other)

    def test_the_same_n_and_unlike_r(self):
        # N is 6 for both, R is 3 and 4
        self.assertIs(is_as_hard((2, 1), (1, 2)), True)
        self.assertIs(is_as_hard(one=(1, 2), other=(2, 1)), False)
        self.judge((1, 2), (2, 1))
        self.judge((2, 1), (1, 2))

    def test_unlike_n_and_the_same_r(self):
        # R is 4 for both, N is 5, 6 and 8
        for one, other in itertools.permutations(((4,), (2, 1), (1, 3), (1, 1, 1)), 2):
            self.judge(one, other)

    def test_all_small_ones(self):
        batches = all_batches(12)
        for one, other in itertools.product(batches, repeat=2):
            self.judge(one, other)

    def test_at_11_and_12_rings(self):
        for one in ((10,), (11,), (12,), (13,)):
            for other in ((11,), (12,), (13,), (14,), (100,)):
                self.judge(one, other)
        self.assertIs(is_as_hard((11,), (12,)), False)
        self.assertIs(is_as_hard((12,), (13,)), True)
        self.assertIs(is_as_hard((12,), (100,) * 60), True)
        self.assertIs(is_as_hard((11,), (100,) * 60), False)

    def test_at_10_and_11_walks(self):
        # R is 10 with each N from 11 to 20 that there is
        tens = [one for one in all_batches(20) if first_reach(one) == 10]
        self.assertEqual({product_reach(one) for one in tens}, {11, 12, 15, 20})
        for one in tens:
            for other in [(1, 10), (10,), (1, 1, 4), (19,), (20,), (1, 9), (9, 1), (4, 3)] + tens:
                self.judge(one, other)
        # R is 11 for both, N is 12 and 22
        self.assertIs(is_as_hard((11,), (1, 10)), True)
        self.assertIs(telling_case((11,), (1, 10)), None)
        # R is 10 for both, N is 11 and 20
        self.assertIs(is_as_hard((10,), (1, 9)), False)

    def test_great_ones(self):
        chance = random.Random(53)
        great = [(100,) * 60, (1,) * 60, (1,) * 5, (1,) * 4, (2, 2, 2), (3, 3), (1, 5), (5, 1), (1, 1, 5)]
        for one, other in itertools.product(great, repeat=2):
            self.judge(one, other)
        middle = all_batches(24)
        for _ in range(2500):
            self.judge(chance.choice(middle), chance.choice(middle))

    def test_for_each_reach_the_next_one(self):
        # walks of just one tie more than one looks are to tell
        by_walks = {}
        for batches in all_batches(24):
            by_walks.setdefault(product_reach(batches), []).append(batches)
        for reach, all_of_it in by_walks.items():
            for one in all_of_it:
                for other in by_walks.get(reach + 1, []):
                    self.judge(one, other)


class MeaningTest(unittest.TestCase):
    def test_no_small_table_says_otherwise(self):
        chance = random.Random(54)
        batches = [(), (1,), (2,), (1, 1), (3,), (1, 2), (2, 1), (1, 1, 1)]
        for table in small_tables(150, 4, 7, -2, 2, seed=54):
            times = random_times(chance, table, 4)
            held = {one: slow_held(table, times, one) for one in batches}
            for one, other in itertools.permutations(batches, 2):
                if is_as_hard(one, other) and held[one]:
                    self.assertTrue(held[other])

    def test_whole_games(self):
        for one, other in itertools.permutations(((), (1,), (2,), (1, 1)), 2):
            if not is_as_hard(one, other):
                table, times = telling_case(one=one, other=other)
                self.assertTrue(game_keeps(table, times, one))
                self.assertFalse(game_keeps(table, times, other))


class RaisedTest(unittest.TestCase):
    def invalid(self, one, other):
        for call in (is_as_hard, telling_case):
            with self.assertRaises(InvalidNumber) as caught:
                call(one, other)
            self.assertEqual(caught.exception.word, "batches")

    def test_batches(self):
        for value in odd_values() + NO_BATCHES:
            self.invalid(value, ())
            self.invalid((), value)
            self.invalid((100,) * 60, value)
            self.invalid(value, value)


if __name__ == "__main__":
    unittest.main()
