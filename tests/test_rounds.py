"""Point 52: rounds and waiting."""

import random
import time
import unittest

from saidatonce.errors import InvalidNumber, InvalidTimes, Refused
from saidatonce.limits import limits
from saidatonce.rounds import least_waiting, most_rounds, sure_rounds
from saidatonce.tables import Table
from tests.odd import Sour, Yes, odd_values, small_tables
from tests.slow import LETTERS, first_reach, game_keeps, product_reach, random_times, ring_of, slow_held
from tests.test_cuts import cuts_of

RING = Table(tuple(LETTERS[:9]), ring_of(9, 1))
NINE = (None,) * 9
ROW = Table(tuple("abcde"), tuple((at, at + 1, 1) for at in range(4)))
ENDS = (0, None, None, None, 3)
CALLS = (most_rounds, sure_rounds, least_waiting)


def all_cuts_of(orders):
    return [(many, cut) for many in range(1, orders + 1) for cut in cuts_of(orders, many)]


def only_rings(count, length):
    """A table with a ring above 0 of things that are missing, and times of another thing, far from it."""
    length = min(length, count - 1)
    return Table(tuple(LETTERS[:count]), ring_of(length, 1)), (None,) * (count - 1) + (5,)


def waits(cut):
    return sum(size * (size - 1) // 2 for size in cut)


class RoundsCase(unittest.TestCase):
    def judge(self, table, times, orders, held=slow_held):
        """Against all cuts."""
        cuts = {cut: held(table, times, cut) for _, cut in all_cuts_of(orders)}
        some = [len(cut) for cut, told in cuts.items() if told]
        sure = [
            many for many in range(1, orders + 1) if all(told for cut, told in cuts.items() if len(cut) == many)
        ]
        self.assertEqual(most_rounds(table, times, orders), max(some, default=0))
        self.assertEqual(sure_rounds(table, times, orders), max(sure, default=0))
        if not some:
            with self.assertRaises(Refused) as caught:
                least_waiting(table, times, orders)
            self.assertEqual(caught.exception.word, "held")
            return
        told = least_waiting(table, times, orders)
        self.assertIsInstance(told, tuple)
        waiting, cut = told
        self.assertEqual(waiting, min(waits(cut) for cut, told in cuts.items() if told))
        self.assertEqual(waits(cut), waiting)
        self.assertTrue(cuts[cut])


class RoundsTest(RoundsCase):
    def test_the_example_of_the_document(self):
        told = most_rounds(RING, NINE, 5), sure_rounds(RING, NINE, 5), least_waiting(RING, NINE, 5)[0]
        self.assertEqual(told, (3, 1, 3))

    def test_rings_against_all_cuts(self):
        for count in range(2, 13):
            table = Table(tuple(LETTERS[:count]), ring_of(count, 1))
            for times in ((None,) * count, (0,) + (None,) * (count - 1)):
                for orders in (1, 2, 3, 5, 7, 9):
                    self.judge(table, times, orders)

    def test_small_tables_against_all_cuts(self):
        chance = random.Random(52)
        for table in small_tables(60, 5, 8, -3, 2, seed=52):
            times = random_times(chance, table)
            for orders in (1, 2, 4, 6):
                self.judge(table, times, orders)

    def test_small_tables_against_whole_games(self):
        chance = random.Random(53)
        for table in small_tables(25, 3, 5, -2, 2, seed=53):
            times = random_times(chance, table, 3)
            for orders in (1, 2, 3):
                self.judge(table, times, orders, game_keeps)

    def test_a_limit_alone(self):
        # walks alone, rings alone, both, none
        for table, times in (
            (ROW, ENDS), (ROW, (0, None, None, None, 4)), (RING, NINE), (RING, (0,) + NINE[1:]),
            only_rings(6, 5), only_rings(9, 4),
        ):
            for orders in (1, 2, 3, 4, 6, 8, 10):
                self.judge(table, times, orders)

    def test_longest_walks(self):
        # limits of up to 24 ties
        for exit_at in (1, 5, 11):
            ties = [(0, 1, 0)] + [(at, at + 1, 0) for at in range(1, 11)] + [(11, 1, 1), (exit_at, 0, 0)]
            table = Table(tuple(LETTERS), tuple(ties))
            for orders in (3, 6, 9):
                self.judge(table, (0,) + (None,) * 11, orders)

    def test_names_of_parameters(self):
        self.assertEqual(most_rounds(table=ROW, times=ENDS, orders=2), 1)
        self.assertEqual(sure_rounds(table=ROW, times=ENDS, orders=2), 1)
        self.assertEqual(least_waiting(table=ROW, times=ENDS, orders=2), (1, (2,)))

    def test_a_tie_is_broken_now(self):
        times = (0, 0) + NINE[:3]
        for orders in (1, 7, 60):
            self.assertEqual((most_rounds(ROW, times, orders), sure_rounds(ROW, times, orders)), (0, 0))
            with self.assertRaises(Refused) as caught:
                least_waiting(ROW, times, orders)
            self.assertEqual(caught.exception.word, "held")


class SixtyTest(unittest.TestCase):
    """60 orders have too many cuts to try; but N and R do not hang on the sequence of the batches behind the first."""

    def slow_rounds(self, pair, orders):
        """The most batches, and the least waiting, by batches behind the first one that descend."""
        far, around = pair
        best = {}
        for first in range(1, orders + 1):
            for rest, product in self.parts(orders - first, orders, 10 ** 30 if pair == (None, None) else 24):
                cut = (first,) + rest
                if (far is None or (first + 1) * product < far) and (around is None or first * product < around):
                    best[len(cut)] = min(best.get(len(cut), 10 ** 9), waits(cut))
        return max(best, default=0), min(best.values(), default=None)

    def parts(self, left, most, bound):
        if left == 0:
            return [((), 1)]
        found = []
        for size in range(1, min(most, left) + 1):
            if (size + 1) + left - size <= bound:
                found += [
                    ((size,) + rest, (size + 1) * product) for rest, product in self.parts(left - size, size, bound)
                    if (size + 1) * product <= bound
                ]
        return found

    def test_up_to_60_orders(self):
        began = time.perf_counter()
        cases = [(RING, NINE), (ROW, ENDS), (RING, (0,) + NINE[1:]), only_rings(12, 11), only_rings(5, 4)]
        for exit_at in (3, 11):
            ties = [(0, 1, 0)] + [(at, at + 1, 0) for at in range(1, 11)] + [(11, 1, 1), (exit_at, 0, 0)]
            cases.append((Table(tuple(LETTERS), tuple(ties)), (0,) + (None,) * 11))
        for table, times in cases:
            pair = limits(table, times)
            for orders in (1, 2, 5, 8, 9, 10, 11, 12, 15, 21, 22, 23, 24, 40, 60):
                most, least = self.slow_rounds(pair, orders)
                self.assertEqual(most_rounds(table, times, orders), most)
                if least is None:
                    with self.assertRaises(Refused):
                        least_waiting(table, times, orders)
                else:
                    waiting, cut = least_waiting(table, times, orders)
                    self.assertEqual((waiting, waits(cut), sum(cut)), (least, least, orders))
                    self.assertTrue(slow_held(table, times, cut))
        self.assertLess(time.perf_counter() - began, 30)

    def test_without_limits(self):
        free = (ROW, (0, None, None, None, 4))
        self.assertEqual((most_rounds(*free, 60), sure_rounds(*free, 60)), (60, 60))
        self.assertEqual(least_waiting(*free, 60), (0, (1,) * 60))

    def test_the_sentences_on_fewer_batches(self):
        for table, times in ((RING, NINE), (ROW, ENDS), only_rings(12, 11)):
            far, around = limits(table, times)
            for orders in range(1, 12):
                held = {
                    cut: (far is None or product_reach(cut) < far) and (around is None or first_reach(cut) < around)
                    for _, cut in all_cuts_of(orders)
                }
                most, sure = most_rounds(table, times, orders), sure_rounds(table, times, orders)
                for many in range(1, orders + 1):
                    told = [value for cut, value in held.items() if len(cut) == many]
                    self.assertEqual((any(told), all(told)), (many <= most, many <= sure))


class RaisedTest(unittest.TestCase):
    def test_times(self):
        for value in odd_values() + [[0] * 5, (0,) * 4]:
            for call in CALLS:
                with self.assertRaises(InvalidTimes) as caught:
                    call(ROW, value, 0)
                self.assertEqual(caught.exception.at, -1)
        for call in CALLS:
            with self.assertRaises(InvalidTimes) as caught:
                call(ROW, (0, None, 10 ** 9 + 1, True, 5), 3)
            self.assertEqual(caught.exception.at, 2)

    def test_orders(self):
        for value in odd_values() + [0, -1, 61, 10 ** 400, 5.0, "5", (5,), Sour(), Yes()]:
            for call in CALLS:
                with self.assertRaises(InvalidNumber) as caught:
                    call(ROW, (0, 0) + NINE[:3], value)
                self.assertEqual(caught.exception.word, "orders")


if __name__ == "__main__":
    unittest.main()
