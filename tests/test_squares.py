"""Points 22 and 23: greatest weights, and walks that have them."""

import random
import unittest

from saidatonce.errors import InvalidNumber, Refused
from saidatonce.squares import (
    closed_weights, greatest_weights, heaviest_ring, heaviest_walk, joined_rows, tie_rows,
)
from saidatonce.tables import Table
from tests.odd import odd_values, small_tables, walks_from, weight_of

FAR = 10 ** 130
NO_MOST = [-1, -FAR, FAR + 1, 10 ** 400, (1,), "1"]


def example():
    return Table(("a", "b", "c"), ((0, 1, 2), (1, 2, 3), (0, 2, 4), (2, 0, -6)))


def ring(*weights):
    """Things in a ring, with these weights of the ties from each to the next."""
    count = len(weights)
    return Table(tuple("abcdefghijkl"[:count]), tuple((at, (at + 1) % count, w) for at, w in enumerate(weights)))


def slow_rows(table, most):
    count = len(table.things)
    rows = []
    for one in range(count):
        row = [None] * count
        for walk, end in walks_from(table, one, most):
            weight = weight_of(table, walk)
            row[end] = weight if row[end] is None else max(row[end], weight)
        rows.append(tuple(row))
    return tuple(rows)


def slow_closed(table, most):
    found = []
    for one in range(len(table.things)):
        weights = [weight_of(table, walk) for walk, end in walks_from(table, one, most) if walk and end == one]
        found.append(max(weights, default=None))
    return tuple(found)


class RowsTest(unittest.TestCase):
    def test_examples(self):
        table = example()
        self.assertEqual(greatest_weights(table, 1), ((0, 2, 4), (None, 0, 3), (-6, None, 0)))
        self.assertEqual(greatest_weights(table, 2)[0], (0, 2, 5))
        self.assertEqual(closed_weights(table, 2), (-2, None, -2))

    def test_no_ties_at_all(self):
        table = Table(("a", "b"), ())
        for most in (0, 1, 5, FAR):
            self.assertEqual(greatest_weights(table, most), ((0, None), (None, 0)))
            self.assertEqual(closed_weights(table, most), (None, None))
        self.assertEqual(tie_rows(table), ((0, None), (None, 0)))

    def test_zero_and_one(self):
        table = example()
        self.assertEqual(greatest_weights(table, 0), ((0, None, None), (None, 0, None), (None, None, 0)))
        self.assertEqual(greatest_weights(table, 1), tie_rows(table))
        self.assertEqual(closed_weights(table, 0), (None, None, None))
        self.assertEqual(closed_weights(table, 1), (None, None, None))

    def test_tie_rows(self):
        table = Table(("a", "b", "c"), ((0, 1, -5), (0, 1, -2), (0, 1, -3), (1, 0, 9), (2, 1, 0)))
        self.assertEqual(tie_rows(table), ((0, -2, None), (9, 0, None), (None, 0, 0)))
        self.assertEqual(tie_rows(table=table), greatest_weights(table=table, most=1))

    def test_by_all_walks(self):
        for table in small_tables(40, 3, 4, seed=22):
            for most in range(6):
                self.assertEqual(greatest_weights(table, most), slow_rows(table, most))
                self.assertEqual(closed_weights(table, most), slow_closed(table, most))

    def test_longer_walks_by_all_walks(self):
        for table in (ring(1, 1, 1, -2), ring(1, -1), ring(2, 3, -6), ring(0, 0, 0, 0, 0), ring(1, 1, 1, 1, 1, 1, -5)):
            for most in range(24):
                self.assertEqual(greatest_weights(table, most), slow_rows(table, most))
                self.assertEqual(closed_weights(table, most), slow_closed(table, most))

    def test_a_ring_above_0(self):
        table = ring(5, -2)
        for most in (2, 3, 10, 11, 10 ** 6, 10 ** 6 + 1, 2 ** 200, 2 ** 200 - 1, FAR - 1, FAR):
            round_trips = most // 2 * 3
            there = (most - 1) // 2 * 3 + 5
            back = (most - 1) // 2 * 3 - 2
            self.assertEqual(greatest_weights(table, most), ((round_trips, there), (back, round_trips)))
            self.assertEqual(closed_weights(table, most), (round_trips, round_trips))

    def test_a_long_ring_above_0(self):
        table = ring(*(1,) * 12)
        for most in (12, 13, 23, 24, 25, 1000, FAR - 5, FAR):
            rows = greatest_weights(table, most)
            for one in range(12):
                for other in range(12):
                    apart = (other - one) % 12
                    self.assertEqual(rows[one][other], (most - apart) // 12 * 12 + apart)
            self.assertEqual(closed_weights(table, most), (most // 12 * 12,) * 12)

    def test_a_ring_at_0(self):
        table = ring(5, -5)
        for most in (2, 3, 100, FAR):
            self.assertEqual(greatest_weights(table, most), ((0, 5), (-5, 0)))
            self.assertEqual(closed_weights(table, most), (0, 0))

    def test_a_ring_below_0(self):
        table = ring(5, -6)
        for most in (2, 3, 100, FAR):
            self.assertEqual(greatest_weights(table, most), ((0, 5), (-6, 0)))
            self.assertEqual(closed_weights(table, most), (-1, -1))

    def test_many_ties_until_it_is_best(self):
        table = ring(-1, 0, 0, 0, 0, 0, 0, 0, 0, 0, 0, -1)
        self.assertIsNone(greatest_weights(table, 10)[1][0])
        self.assertEqual(greatest_weights(table, 11)[1][0], -1)
        self.assertEqual(closed_weights(table, 11), (None,) * 12)
        self.assertEqual(closed_weights(table, 12), (-2,) * 12)
        self.assertEqual(closed_weights(table, FAR), (-2,) * 12)

    def test_a_ring_to_go_to(self):
        table = Table(("a", "b", "c", "d"), ((0, 1, -9), (1, 2, 1), (2, 1, 0), (2, 3, -9)))
        self.assertEqual(greatest_weights(table, 3)[0][3], -17)
        self.assertEqual(greatest_weights(table, 4)[0][3], -17)
        self.assertEqual(greatest_weights(table, 5)[0][3], -16)
        self.assertEqual(greatest_weights(table, FAR)[0], (0, FAR // 2 - 1 - 9, FAR // 2 - 9, FAR // 2 - 2 - 17))
        self.assertEqual(closed_weights(table, FAR), (None, FAR // 2, FAR // 2, None))

    def test_other_numbers(self):
        for most in NO_MOST + odd_values():
            for call in (greatest_weights, closed_weights):
                with self.assertRaises(InvalidNumber) as caught:
                    call(example(), most)
                self.assertEqual(caught.exception.word, "most")


class JoinedTest(unittest.TestCase):
    def test_with_none(self):
        one = ((None, 1), (None, None))
        other = ((5, None), (None, 7))
        self.assertEqual(joined_rows(one, other), ((None, 8), (None, None)))
        self.assertEqual(joined_rows(other, one), ((None, 6), (None, None)))
        self.assertEqual(joined_rows(((None,),), ((3,),)), ((None,),))
        self.assertEqual(joined_rows(((3,),), ((None,),)), ((None,),))
        self.assertEqual(joined_rows(one=((3,),), other=((-4,),)), ((-1,),))

    def test_the_greatest_sum(self):
        one = ((0, -1, 2), (None, 0, None), (-9, None, -8))
        other = ((1, 2, 3), (5, None, -5), (None, -4, 0))
        self.assertEqual(joined_rows(one, other), ((4, 2, 3), (5, None, -5), (-8, -7, -6)))

    def test_any_rows_by_a_slow_way(self):
        chance = random.Random(23)
        for _ in range(200):
            count = chance.randint(1, 4)
            one, other = [
                tuple(tuple(chance.choice((None, None, -20, -3, 0, 1, 10 ** 140)) for _ in range(count))
                      for _ in range(count))
                for _ in range(2)
            ]
            rows = tuple(
                tuple(
                    max([one[x][z] + other[z][y] for z in range(count)
                         if one[x][z] is not None and other[z][y] is not None], default=None)
                    for y in range(count)
                )
                for x in range(count)
            )
            self.assertEqual(joined_rows(one, other), rows)

    def test_rows_joined_are_those_for_the_sum(self):
        tables = small_tables(12, 4, 8, seed=24) + [ring(5, -2), ring(1, -3, 1), ring(*(1,) * 12)]
        for table in tables:
            for m in (0, 1, 2, 3, 7, 10 ** 20, 10 ** 129):
                for n in (0, 1, 2, 5, 64, 10 ** 20 + 1, 3 * 10 ** 129):
                    joined = joined_rows(greatest_weights(table, m), greatest_weights(table, n))
                    self.assertEqual(joined, greatest_weights(table, m + n))


class WalksTest(unittest.TestCase):
    def judge(self, table, walk, one, other, most, least, weight):
        self.assertIsInstance(walk, tuple)
        self.assertTrue(least <= len(walk) <= most)
        at = one
        for number in walk:
            self.assertEqual(table.ties[number][0], at)
            at = table.ties[number][1]
        self.assertEqual(at, other)
        self.assertEqual(weight_of(table, walk), weight)

    def judge_all(self, table, most):
        rows = greatest_weights(table, most)
        closed = closed_weights(table, most)
        for one in range(len(table.things)):
            found = heaviest_ring(table, one, most)
            if closed[one] is None:
                self.assertIsNone(found)
            else:
                self.judge(table, found, one, one, most, 1, closed[one])
            for other in range(len(table.things)):
                found = heaviest_walk(table, one, other, most)
                if rows[one][other] is None:
                    self.assertIsNone(found)
                else:
                    self.judge(table, found, one, other, most, 0, rows[one][other])

    def test_example(self):
        self.assertEqual(heaviest_walk(example(), 0, 2, 9), (0, 1))
        self.assertEqual(heaviest_walk(table=example(), one=0, other=2, most=1), (2,))
        self.assertIn(heaviest_ring(table=example(), thing=0, most=3), ((0, 1, 3),))
        self.assertEqual(heaviest_ring(example(), 0, 2), (2, 3))

    def test_none(self):
        table = Table(("a", "b", "c"), ((0, 1, 5), (1, 2, 5)))
        self.assertIsNone(heaviest_walk(table, 1, 0, 200))
        self.assertIsNone(heaviest_walk(table, 0, 2, 1))
        self.assertEqual(heaviest_walk(table, 0, 2, 2), (0, 1))
        for thing in range(3):
            for most in (0, 1, 2, 200):
                self.assertIsNone(heaviest_ring(table, thing, most))
                self.assertEqual(heaviest_walk(table, thing, thing, most), ())

    def test_no_ties(self):
        table = ring(5, -2)
        self.assertEqual(heaviest_walk(table, 0, 0, 0), ())
        self.assertIsNone(heaviest_walk(table, 0, 1, 0))
        self.assertIsNone(heaviest_ring(table, 0, 0))
        self.assertIsNone(heaviest_ring(table, 0, 1))
        self.assertEqual(heaviest_ring(table, 0, 2), (0, 1))
        self.assertEqual(heaviest_ring(table, 1, 2), (1, 0))

    def test_a_ring_has_a_tie_even_if_it_weighs_less_than_nothing(self):
        table = ring(-5, -2)
        self.assertEqual(heaviest_walk(table, 0, 0, 200), ())
        self.assertEqual(heaviest_ring(table, 0, 200), (0, 1))

    def test_the_heavier_of_two_ties(self):
        table = Table(("a", "b"), ((0, 1, 1), (0, 1, 2), (1, 0, -9), (1, 0, -8)))
        self.assertEqual(heaviest_walk(table, 0, 1, 7), (1,))
        self.assertEqual(heaviest_ring(table, 0, 7), (1, 3))
        self.assertEqual(heaviest_ring(table, 1, 7), (3, 1))

    def test_small_tables(self):
        for table in small_tables(60, 4, 7, seed=25):
            for most in (0, 1, 2, 3, 4, 5, 9, 30):
                self.judge_all(table, most)

    def test_rings(self):
        for table in (ring(5, -2), ring(5, -5), ring(1, 1, 1, -2), ring(*(1,) * 12), ring(0, 0, 0), ring(-1, -1)):
            for most in (0, 1, 2, 11, 12, 13, 25, 199, 200):
                self.judge_all(table, most)

    def test_great_tables(self):
        for table in small_tables(6, 12, 60, -50, 40, seed=26):
            for most in (1, 6, 24, 200):
                self.judge_all(table, most)

    def test_the_most_ties(self):
        table = ring(5, -2)
        self.judge(table, heaviest_walk(table, 0, 0, 200), 0, 0, 200, 0, 300)
        self.judge(table, heaviest_ring(table, 1, 200), 1, 1, 200, 1, 300)
        for most in (201, 202, 10 ** 6, FAR):
            for call, given in ((heaviest_walk, (table, 0, 1, most)), (heaviest_ring, (table, 0, most)),
                                (heaviest_walk, (Table(("a", "b"), ()), 0, 1, most)),
                                (heaviest_ring, (Table(("a",), ()), 0, most))):
                with self.assertRaises(Refused) as caught:
                    call(*given)
                self.assertEqual(caught.exception.word, "size")

    def test_other_numbers(self):
        for most in NO_MOST + odd_values():
            for call, given in ((heaviest_walk, (example(), 0, 1, most)), (heaviest_ring, (example(), 0, most))):
                with self.assertRaises(InvalidNumber) as caught:
                    call(*given)
                self.assertEqual(caught.exception.word, "most")


if __name__ == "__main__":
    unittest.main()
