"""Point 25: rings above 0, greatest weights for ever, means."""

import math
import random
import time
import unittest
from fractions import Fraction

from saidatonce.errors import InvalidNumber, Refused
from saidatonce.squares import closed_weights, greatest_weights
from saidatonce.steady import barring_walk, final_weights, greatest_mean, mean_ring, steady_length
from saidatonce.tables import Table
from tests.odd import Sour, Yes, keeps, odd_values, small_tables, weight_of
from tests.slow import LETTERS, all_plans, great_table, ring_of, slow_rows, slow_walks

TABLE = Table(("a", "b", "c"), ((0, 1, 2), (1, 2, 3), (0, 2, 4), (2, 0, -6)))
ALONE = Table(("a",), ())


def passed(table, walk):
    return [table.ties[number][0] for number in walk]


class RingCase(unittest.TestCase):
    def is_ring(self, table, walk):
        """A closed walk that passes no thing twice but its first one."""
        self.assertIsInstance(walk, tuple)
        self.assertTrue(walk)
        for at, number in enumerate(walk):
            self.assertEqual(table.ties[number][1], table.ties[walk[(at + 1) % len(walk)]][0])
        self.assertEqual(len(set(passed(table, walk))), len(walk))


class BarringTest(RingCase):
    def test_the_example_of_the_document(self):
        self.assertEqual((closed_weights(TABLE, 2), barring_walk(TABLE, 9)), ((-2, None, -2), None))

    def test_a_ring(self):
        for count in range(2, 13):
            for weight in (-1, 0, 1, 10 ** 6):
                table = Table(tuple(LETTERS[:count]), ring_of(count, weight))
                for most in range(14):
                    walk = barring_walk(table, most)
                    if weight > 0 and most >= count:
                        self.is_ring(table, walk)
                        self.assertEqual(len(walk), count)
                    else:
                        self.assertIsNone(walk)

    def test_against_closed_weights(self):
        for table in small_tables(200, 5, 9, -3, 2, seed=25):
            for most in (0, 1, 2, 3, 4, 5, 6, 12, 10 ** 400):
                lengths = [ties for ties in range(1, 6) if ties <= most and any(
                    weight is not None and weight > 0 for weight in closed_weights(table, ties)
                )]
                walk = barring_walk(table=table, most=most)
                if lengths:
                    self.is_ring(table, walk)
                    self.assertEqual(len(walk), lengths[0])
                    self.assertGreater(weight_of(table, walk), 0)
                else:
                    self.assertIsNone(walk)

    def test_12_ties_are_enough(self):
        chance = random.Random(26)
        for bounds in ((-5, 1), (-9, 2), (-2, 0), (-10 ** 6, 10 ** 6)):
            table = great_table(chance, *bounds)
            self.assertEqual(barring_walk(table, 12), barring_walk(table, 10 ** 400))
            self.assertEqual(barring_walk(table, 12) is None, closed_weights(table, 30).count(None) + sum(
                weight is not None and weight <= 0 for weight in closed_weights(table, 30)
            ) == 12)

    def test_no_numbers(self):
        for value in odd_values() + [-1, -10 ** 400, "1", (1,), [1], Sour(), Yes()]:
            with self.assertRaises(InvalidNumber) as caught:
                barring_walk(TABLE, value)
            self.assertEqual(caught.exception.word, "most")
        self.assertIsNone(barring_walk(TABLE, 0))


class SteadyTest(unittest.TestCase):
    def test_the_example_of_the_document(self):
        self.assertEqual(steady_length(TABLE), 2)

    def test_chains_and_rings(self):
        for count in range(1, 13):
            chain = Table(tuple(LETTERS[:count]), tuple((at, at + 1, 5) for at in range(count - 1)))
            self.assertEqual(steady_length(chain), count - 1)
            if count > 1:
                for weight, told in ((-1, count - 1), (0, count - 1), (1, None)):
                    self.assertEqual(steady_length(Table(tuple(LETTERS[:count]), ring_of(count, weight))), told)
        self.assertEqual(steady_length(table=ALONE), 0)
        self.assertEqual(steady_length(Table(("a", "b", "c"), ())), 0)

    def test_against_rows(self):
        for table in small_tables(200, 5, 9, -4, 1, seed=27):
            count = len(table.things)
            steady = steady_length(table)
            rising = any(row[at] > 0 for at, row in enumerate(slow_rows(table, count)))
            self.assertEqual(steady is None, rising)
            if steady is None:
                with self.assertRaises(Refused) as caught:
                    final_weights(table)
                self.assertEqual(caught.exception.word, "ring")
            else:
                self.assertTrue(steady < count)
                last = final_weights(table)
                for most in range(count + 3):
                    rows = greatest_weights(table, most)
                    self.assertEqual(rows == last, most >= steady)
                self.assertEqual(last, tuple(tuple(row) for row in slow_rows(table, 40)))

    def test_they_never_stay_the_same_exactly_if_no_times_are_kept(self):
        for table in small_tables(80, 3, 5, -2, 1, seed=28):
            self.assertEqual(steady_length(table) is None, not all_plans(table, 0, 4))

    def test_rows_are_the_earliest_kept_times(self):
        for table in small_tables(80, 3, 5, -2, 2, seed=29):
            if steady_length(table) is not None:
                plans = all_plans(table, -4, 4)
                for thing, row in enumerate(final_weights(table=table)):
                    if None not in row:
                        self.assertTrue(keeps(table, row))
                        for plan in plans:
                            if plan[thing] == 0:
                                self.assertTrue(all(own <= other for own, other in zip(row, plan)))


class MeanTest(RingCase):
    def judge(self, table, means):
        """Means are those of all rings, or of all closed walks."""
        ring, told = mean_ring(table), greatest_mean(table)
        if not means:
            self.assertEqual((ring, told), (None, None))
            return
        self.is_ring(table, ring)
        best = max(means)
        self.assertEqual(Fraction(weight_of(table, ring), len(ring)), best)
        self.assertEqual(told, (best.numerator, best.denominator))

    def test_the_example_of_the_document(self):
        self.assertEqual(greatest_mean(TABLE), (-1, 3))

    def test_without_a_ring(self):
        for ties in ((), ((0, 1, 5),), ((0, 1, 1), (1, 2, 1), (0, 2, 9))):
            self.judge(Table(("a", "b", "c"), ties), [])
        self.judge(ALONE, [])

    def test_against_all_closed_walks(self):
        for low, high, seed in ((-3, 2, 30), (-9, -1, 31), (-5, 5, 32), (0, 0, 33)):
            for table in small_tables(50, 4, 6, low, high, seed=seed):
                found = slow_walks(table, len(table.things))
                self.judge(table, [Fraction(weight, len(walk)) for walk, one, end, weight in found if one == end])

    def rings_of(self, table):
        """All rings, by ways that begin with their least thing."""
        rings = []
        count = len(table.things)
        out = [[(number, tie) for number, tie in enumerate(table.ties) if tie[0] == thing] for thing in range(count)]

        def go(first, at, seen, ties, weight):
            for _, (_, end, own) in out[at]:
                if end == first:
                    rings.append(Fraction(weight + own, ties + 1))
                elif end > first and end not in seen:
                    go(first, end, seen | {end}, ties + 1, weight + own)

        for first in range(count):
            go(first, first, frozenset(), 0, 0)
        return rings

    def test_great_tables_against_all_rings(self):
        chance = random.Random(34)
        for bounds in ((-9, 9), (-10 ** 6, -1), (-10 ** 6, 10 ** 6), (-1, 0)):
            table = great_table(chance, *bounds, ties=24)
            self.judge(table, self.rings_of(table))

    def test_rings_of_12_things_in_reasonable_time(self):
        chance = random.Random(35)
        began = time.perf_counter()
        for _ in range(20):
            table = great_table(chance, -100, 100)
            ring, (weight, ties) = mean_ring(table), greatest_mean(table)
            self.is_ring(table, ring)
            self.assertEqual(math.gcd(weight, ties), 1)
            self.assertEqual(weight * len(ring), weight_of(table, ring) * ties)
            # with the mean taken off no ring is above 0, so none has a greater one
            small = Table(table.things, tuple((x, y, own * ties - weight) for x, y, own in table.ties))
            self.assertIsNone(barring_walk(small, 12))
        self.assertLess(time.perf_counter() - began, 20)
        for weight in (-7, 0, 13):
            table = Table(tuple(LETTERS), ring_of(12, weight))
            self.judge(table, [Fraction(weight, 12)])

    def test_two_rings_that_hang_together(self):
        # the heavier ring is not the one with the greater mean
        ties = ((0, 1, 2), (1, 0, 2), (1, 2, 2), (2, 3, 1), (3, 1, 1), (3, 0, 2))
        self.judge(Table(("a", "b", "c", "d"), ties), [Fraction(7, 4), Fraction(2), Fraction(4, 3)])
        self.assertEqual(greatest_mean(table=Table(("a", "b"), ((0, 1, -4), (1, 0, -2), (0, 1, -5)))), (-3, 1))
        self.assertEqual(mean_ring(table=Table(("a", "b"), ((0, 1, -5), (1, 0, -2)))) in ((0, 1), (1, 0)), True)


if __name__ == "__main__":
    unittest.main()
