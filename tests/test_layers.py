"""Point 46, the sentences on layers."""

import unittest

from saidatonce.errors import InvalidNumber
from saidatonce.layers import thing_layers
from saidatonce.squares import greatest_weights
from saidatonce.tables import Table
from tests.odd import odd_values, small_tables, walks_from, weight_of


def slow_row(table, thing, most):
    row = [None] * len(table.things)
    for walk, end in walks_from(table, thing, most):
        weight = weight_of(table, walk)
        row[end] = weight if row[end] is None else max(row[end], weight)
    return tuple(row)


class LayersTest(unittest.TestCase):
    def test_a_row_of_things(self):
        table = Table(("a", "b", "c"), ((0, 1, 2), (1, 2, 3), (0, 2, 4)))
        rows = ((0, None, None), (0, 2, 4), (0, 2, 5))
        for most in range(101):
            self.assertEqual(thing_layers(table, 0, most), rows[:most + 1])
        self.assertEqual(thing_layers(table, 1, 9), ((None, 0, None), (None, 0, 3)))
        self.assertEqual(thing_layers(table=table, thing=2, most=9), ((None, None, 0),))

    def test_it_ends_with_the_first_row_that_the_next_one_would_equal(self):
        table = Table(("a", "b"), ((0, 1, 5), (1, 0, -5)))
        self.assertEqual(thing_layers(table, 0, 100), ((0, None), (0, 5)))
        self.assertEqual(thing_layers(table, 1, 100), ((None, 0), (-5, 0)))
        self.assertEqual(thing_layers(table, 1, 0), ((None, 0),))
        self.assertEqual(thing_layers(Table(("a",), ()), 0, 100), ((0,),))

    def test_a_better_walk_comes_late(self):
        table = Table(("a", "b", "c", "d"), ((0, 3, 0), (0, 1, 1), (1, 2, 1), (2, 3, 1)))
        rows = ((0, None, None, None), (0, 1, None, 0), (0, 1, 2, 0), (0, 1, 2, 3))
        self.assertEqual(thing_layers(table, 0, 50), rows)
        self.assertEqual(thing_layers(table, 0, 2), rows[:3])

    def test_one_that_runs_up_to_most(self):
        table = Table(("a", "b"), ((0, 1, 5), (1, 0, -2)))
        for most in (0, 1, 2, 7, 99, 100):
            layers = thing_layers(table, 0, most)
            self.assertEqual(len(layers), most + 1)
            for many in range(1, most + 1):
                self.assertEqual(layers[many], (many // 2 * 3, (many - 1) // 2 * 3 + 5))

    def test_by_all_walks(self):
        for table in small_tables(40, 3, 4, seed=46):
            for thing in range(len(table.things)):
                rows = [slow_row(table, thing, many) for many in range(6)]
                for most in range(5):
                    many = 0
                    while many < most and rows[many] != rows[many + 1]:
                        many += 1
                    self.assertEqual(thing_layers(table, thing, most), tuple(rows[:many + 1]))

    def test_they_are_greatest_weights(self):
        for table in small_tables(10, 12, 60, -30, 20, seed=47):
            for thing in range(len(table.things)):
                layers = thing_layers(table, thing, 100)
                self.assertIsInstance(layers, tuple)
                for many in (0, 1, 5, 30, 100):
                    row = layers[min(many, len(layers) - 1)]
                    self.assertEqual(row, greatest_weights(table, many)[thing])
                for before, behind in zip(layers, layers[1:]):
                    self.assertNotEqual(before, behind)

    def test_other_numbers(self):
        for most in odd_values() + [101, 102, -1, 10 ** 400, (1,), "1"]:
            for table in (Table(("a",), ()), Table(("a", "b"), ((0, 1, 5), (1, 0, -2)))):
                with self.assertRaises(InvalidNumber) as caught:
                    thing_layers(table, 0, most)
                self.assertEqual(caught.exception.word, "most")


if __name__ == "__main__":
    unittest.main()
