"""Point 51: cuts of orders into batches."""

import itertools
import unittest
from math import comb

from saidatonce.cuts import all_cuts, best_cut, worst_cut
from saidatonce.errors import InvalidNumber, Refused
from saidatonce.reach import ring_reach, walk_reach
from tests.odd import Sour, Yes, odd_values

CALLS = (all_cuts, best_cut, worst_cut)


def slow_cuts(orders, many):
    """All cuts, by the sums of all tuples."""
    sizes = range(1, orders - many + 2)
    return tuple(cut for cut in itertools.product(sizes, repeat=many) if sum(cut) == orders)


def cuts_of(orders, many):
    """All cuts, by the places between orders."""
    for places in itertools.combinations(range(1, orders), many - 1):
        marks = (0,) + places + (orders,)
        yield tuple(marks[at + 1] - marks[at] for at in range(many))


def reaches(cut):
    """N and R by the words of chapter 12."""
    product, others = 1, 1
    for at, size in enumerate(cut):
        product *= size + 1
        others *= 1 if at == 0 else size + 1
    return product, cut[0] * others


class CutsCase(unittest.TestCase):
    def invalid(self, word, orders, many):
        for call in CALLS:
            with self.assertRaises(InvalidNumber) as caught:
                call(orders, many)
            self.assertEqual(caught.exception.word, word)


class AllTest(CutsCase):
    def test_small_ones(self):
        self.assertEqual(all_cuts(1, 1), ((1,),))
        self.assertEqual(all_cuts(4, 2), ((1, 3), (2, 2), (3, 1)))
        self.assertEqual(all_cuts(orders=4, many=3), ((1, 1, 2), (1, 2, 1), (2, 1, 1)))
        self.assertEqual(all_cuts(4, 4), ((1, 1, 1, 1),))
        self.assertEqual(all_cuts(60, 60), ((1,) * 60,))
        self.assertEqual(all_cuts(60, 1), ((60,),))

    def test_against_a_slow_way(self):
        for orders in range(1, 9):
            for many in range(1, orders + 1):
                self.assertEqual(all_cuts(orders, many), slow_cuts(orders, many))

    def test_how_many(self):
        told = []
        for orders in range(1, 61):
            for many in range(1, orders + 1):
                count = comb(orders - 1, many - 1)
                told.append(count)
                if count > 500:
                    with self.assertRaises(Refused) as caught:
                        all_cuts(orders, many)
                    self.assertEqual(caught.exception.word, "size")
                else:
                    cuts = all_cuts(orders, many)
                    self.assertEqual(len(cuts), count)
                    self.assertEqual(cuts, tuple(sorted(set(cuts_of(orders, many)))))
        # these are the numbers of cuts next to the bound
        self.assertEqual((max(n for n in told if n <= 500), min(n for n in told if n > 500)), (496, 528))
        self.assertEqual(len(all_cuts(33, 3)), 496)

    def test_their_best_and_worst_are_not_refused(self):
        self.assertEqual(best_cut(60, 30), (1, 31) + (1,) * 28)
        self.assertEqual(worst_cut(60, 30), (2,) * 30)


class BestTest(CutsCase):
    def test_the_example_of_the_document(self):
        self.assertEqual((best_cut(5, 2), worst_cut(5, 2)), ((1, 4), (3, 2)))

    def judge(self, orders, many):
        best, worst = best_cut(orders, many), worst_cut(orders, many)
        for cut in (best, worst):
            self.assertIsInstance(cut, tuple)
            self.assertEqual((len(cut), sum(cut)), (many, orders))
            self.assertTrue(min(cut) > 0)
        low, high = reaches(best), reaches(worst)
        self.assertEqual(low, (walk_reach(best), ring_reach(best)))
        for cut in cuts_of(orders, many):
            far, ring = reaches(cut)
            self.assertTrue(low[0] <= far <= high[0])
            self.assertTrue(low[1] <= ring <= high[1])

    def test_against_all_cuts(self):
        for orders in range(1, 15):
            for many in range(1, orders + 1):
                self.judge(orders, many)

    def test_great_ones(self):
        for orders, many in ((60, 1), (60, 2), (60, 3), (59, 3), (60, 60), (60, 59), (60, 58), (33, 4), (21, 17)):
            self.judge(orders, many)

    def test_names_of_parameters(self):
        self.assertEqual(reaches(best_cut(orders=7, many=3)), reaches((1, 5, 1)))
        self.assertEqual(reaches(worst_cut(many=3, orders=7)), reaches((3, 2, 2)))


class RefusedTest(CutsCase):
    def test_orders(self):
        for value in odd_values() + [0, -1, 61, 10 ** 400, 5.0, "5", (5,), [5], Sour(), Yes()]:
            if not (isinstance(value, int) and value is True):
                self.invalid("orders", value, 1)
        self.invalid("orders", True, 1)
        self.invalid("orders", 61, 1)
        self.assertEqual(best_cut(60, 1), (60,))

    def test_many(self):
        for value in odd_values() + [0, -1, 6, 61, 10 ** 400, 2.0, "2", (2,), [2], Sour(), Yes()]:
            self.invalid("many", 5, value)
        for orders in (1, 2, 30, 60):
            self.invalid("many", orders, orders + 1)
            self.assertEqual(best_cut(orders, orders), (1,) * orders)

    def test_their_order(self):
        self.invalid("orders", 0, 0)
        self.invalid("orders", 61, 62)
        self.invalid("orders", None, None)
        self.invalid("orders", 61, 30)
        self.invalid("many", 60, 61)


if __name__ == "__main__":
    unittest.main()
