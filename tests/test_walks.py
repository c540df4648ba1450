"""Points 20 and 21: walks, cut and unwound."""

import random
import unittest
from collections import Counter

from saidatonce.squares import closed_weights, greatest_weights, heaviest_walk
from saidatonce.tables import Table
from saidatonce.walks import (
    cut_walk, is_closed_walk, is_walk, is_walk_between, unwound, walk_ends, walk_things, walk_weight,
)
from tests.odd import Sour, Yes, odd_values, small_tables, walks_from

TABLE = Table(("a", "b", "c"), ((0, 1, 2), (1, 2, 3), (0, 2, 4), (2, 0, -6)))
PAIR = Table(("a", "b"), ((0, 1, 1), (1, 0, 0)))


def random_walk(table, chance, many):
    """A walk of so many ties, or of fewer, if no tie leads on."""
    walk = []
    at = chance.randrange(len(table.things))
    for _ in range(many):
        ways = [number for number, tie in enumerate(table.ties) if tie[0] == at]
        if not ways:
            break
        walk.append(chance.choice(ways))
        at = table.ties[walk[-1]][1]
    return tuple(walk)


class WalkTest(unittest.TestCase):
    def test_walks(self):
        for walk in ((), (0,), (1,), (0, 1), (0, 1, 3), (3, 2, 3, 0, 1), (2, 3) * 9):
            self.assertIs(is_walk(TABLE, walk), True)
        self.assertIs(is_walk(table=TABLE, value=(0, 1)), True)

    def test_ties_that_do_not_join(self):
        for value in ((0, 0), (0, 2), (1, 0), (2, 1), (3, 1), (0, 1, 3, 1), (3, 3), (1, 3, 0, 0)):
            self.assertIs(is_walk(TABLE, value), False)

    def test_numbers_of_no_tie(self):
        for number in (4, -1, 60, -4, 10 ** 400, True, False, 0.0, 1.0, "0", None, (0,), [0], Sour(), Yes()):
            self.assertIs(is_walk(TABLE, (number,)), False)
            self.assertIs(is_walk(TABLE, (0, number)), False)
            self.assertIs(is_walk(TABLE, (0, 1, number, 2)), False)
        self.assertIs(is_walk(PAIR, (True,)), False)
        self.assertIs(is_walk(PAIR, (False,)), False)
        self.assertIs(is_walk(PAIR, (False, True)), False)

    def test_other_values(self):
        for value in odd_values() + [[], [0], [0, 1], "01", -1, {0: 1}, range(1)]:
            for table in (TABLE, Table(("a",), ())):
                self.assertIs(is_walk(table, value), False)
                self.assertIs(is_walk_between(table, 0, 0, value), False)
                self.assertIs(is_closed_walk(table, value), False)
                self.assertIs(is_walk(table, (value,)), False)
                self.assertIs(is_walk_between(table, 0, 0, (value,)), False)
                self.assertIs(is_closed_walk(table, (value,)), False)

    def test_without_ties(self):
        self.assertIs(is_walk(Table(("a",), ()), ()), True)
        self.assertIs(is_walk(Table(("a",), ()), (0,)), False)
        self.assertIs(is_closed_walk(Table(("a",), ()), ()), False)

    def test_how_long(self):
        for many in (498, 499, 500):
            walk = ((0, 1) * 260)[:many]
            self.assertIs(is_walk(PAIR, walk), True)
            self.assertIs(is_walk_between(PAIR, 0, many % 2, walk), True)
            self.assertIs(is_closed_walk(PAIR, walk), many % 2 == 0)
        for many in (501, 502, 504, 30000):
            walk = ((0, 1) * 15000)[:many]
            self.assertIs(is_walk(PAIR, walk), False)
            self.assertIs(is_walk_between(PAIR, 0, many % 2, walk), False)
            self.assertIs(is_closed_walk(PAIR, walk), False)

    def test_between(self):
        self.assertIs(is_walk_between(TABLE, 0, 2, (0, 1)), True)
        self.assertIs(is_walk_between(TABLE, 0, 2, (2,)), True)
        self.assertIs(is_walk_between(TABLE, 0, 1, (0, 1)), False)
        self.assertIs(is_walk_between(TABLE, 1, 2, (0, 1)), False)
        self.assertIs(is_walk_between(TABLE, 2, 0, (0, 1)), False)
        self.assertIs(is_walk_between(TABLE, 0, 2, (0, 2)), False)
        self.assertIs(is_walk_between(table=TABLE, one=2, other=1, value=(3, 0)), True)

    def test_between_one_and_the_same(self):
        for thing in range(3):
            self.assertIs(is_walk_between(TABLE, thing, thing, ()), True)
            self.assertIs(is_walk_between(TABLE, thing, (thing + 1) % 3, ()), False)
        self.assertIs(is_walk_between(TABLE, 0, 0, (0, 1, 3)), True)
        self.assertIs(is_walk_between(TABLE, 1, 1, (0, 1, 3)), False)
        self.assertIs(is_walk_between(TABLE, 1, 1, (1, 3, 0)), True)
        self.assertIs(is_walk_between(TABLE, 0, 0, (0, 1)), False)

    def test_closed(self):
        for walk in ((2, 3), (3, 2), (0, 1, 3), (1, 3, 0), (2, 3, 0, 1, 3)):
            self.assertIs(is_closed_walk(TABLE, walk), True)
        for value in ((), (0,), (0, 1), (2, 3, 2), (2, 2), [2, 3], (True, 3, 0)):
            self.assertIs(is_closed_walk(TABLE, value), False)
        self.assertIs(is_closed_walk(table=TABLE, value=(2, 3)), True)

    def test_all_walks_of_small_tables(self):
        for table in small_tables(30, 4, 6, seed=20):
            for thing in range(len(table.things)):
                for walk, end in walks_from(table, thing, 3):
                    self.assertIs(is_walk(table, walk), True)
                    self.assertIs(is_closed_walk(table, walk), bool(walk) and end == thing)
                    for other in range(len(table.things)):
                        self.assertIs(is_walk_between(table, thing, other, walk), other == end)


class ToldTest(unittest.TestCase):
    def test_things_ends_and_weights(self):
        self.assertEqual(walk_things(TABLE, (0, 1, 3, 2)), (0, 1, 2, 0, 2))
        self.assertEqual(walk_ends(TABLE, (0, 1, 3, 2)), (0, 2))
        self.assertEqual(walk_weight(TABLE, (0, 1, 3, 2)), 3)
        self.assertEqual(walk_things(table=TABLE, walk=(1,)), (1, 2))
        self.assertEqual(walk_ends(table=TABLE, walk=(1,)), (1, 2))
        self.assertEqual(walk_weight(table=TABLE, walk=(3,)), -6)
        self.assertEqual(walk_ends(TABLE, (0, 1, 3)), (0, 0))

    def test_the_walk_without_ties(self):
        self.assertEqual(walk_things(TABLE, ()), ())
        self.assertIsNone(walk_ends(TABLE, ()))
        self.assertEqual(walk_weight(TABLE, ()), 0)

    def test_longer_ones_too(self):
        table = Table(("a", "b"), ((0, 1, 10 ** 6), (1, 0, -1)))
        walk = (0, 1) * 400 + (0,)
        self.assertEqual(walk_things(table, walk), (0, 1) * 401)
        self.assertEqual(walk_ends(table, walk), (0, 1))
        self.assertEqual(walk_weight(table, walk), 401 * 10 ** 6 - 400)

    def test_no_time_of_kept_ones_is_nearer(self):
        times = (0, 2, 5)
        for thing in range(3):
            for walk, end in walks_from(TABLE, thing, 6):
                self.assertGreaterEqual(times[end] - times[thing], walk_weight(TABLE, walk))

    def test_the_example_of_the_document(self):
        self.assertEqual(greatest_weights(TABLE, 1), ((0, 2, 4), (None, 0, 3), (-6, None, 0)))
        self.assertEqual(greatest_weights(TABLE, 2)[0], (0, 2, 5))
        self.assertEqual(heaviest_walk(TABLE, 0, 2, 9), (0, 1))
        self.assertEqual(walk_weight(TABLE, heaviest_walk(TABLE, 0, 2, 9)), 5)
        self.assertEqual(closed_weights(TABLE, 2), (-2, None, -2))


class CutTest(unittest.TestCase):
    def test_parts(self):
        walk = (0, 1, 3, 2, 3)
        self.assertEqual(cut_walk(walk, (2,)), ((0, 1), (3, 2, 3)))
        self.assertEqual(cut_walk(walk, (1, 2, 4)), ((0,), (1,), (3, 2), (3,)))
        self.assertEqual(cut_walk(walk=walk, places=(3,)), ((0, 1, 3), (2, 3)))

    def test_no_places(self):
        self.assertEqual(cut_walk((0, 1), ()), ((0, 1),))
        self.assertEqual(cut_walk((), ()), ((),))

    def test_equal_places(self):
        self.assertEqual(cut_walk((0, 1, 3), (1, 1)), ((0,), (), (1, 3)))
        self.assertEqual(cut_walk((0, 1, 3), (2, 2, 2)), ((0, 1), (), (), (3,)))

    def test_at_both_ends(self):
        self.assertEqual(cut_walk((0, 1), (0,)), ((), (0, 1)))
        self.assertEqual(cut_walk((0, 1), (2,)), ((0, 1), ()))
        self.assertEqual(cut_walk((0, 1), (0, 0, 1, 2, 2)), ((), (), (0,), (1,), (), ()))
        self.assertEqual(cut_walk((), (0,)), ((), ()))
        self.assertEqual(cut_walk((), (0, 0)), ((), (), ()))

    def test_together_they_are_the_walk(self):
        chance = random.Random(21)
        for _ in range(200):
            walk = random_walk(TABLE, chance, chance.randint(0, 20))
            places = tuple(sorted(chance.randint(0, len(walk)) for _ in range(chance.randint(0, 6))))
            parts = cut_walk(walk, places)
            self.assertEqual(len(parts), len(places) + 1)
            self.assertEqual(sum(parts, ()), walk)
            self.assertEqual(tuple(len(sum(parts[:at + 1], ())) for at in range(len(places))), places)


class UnwoundTest(unittest.TestCase):
    def judge(self, table, walk):
        told = unwound(table, walk)
        self.assertIsInstance(told, tuple)
        straight, rings = told
        self.assertIsInstance(rings, tuple)
        self.assertTrue(is_walk(table, straight))
        passed = walk_things(table, straight)
        self.assertEqual(len(passed), len(set(passed)))
        if walk:
            self.assertTrue(is_walk_between(table, *walk_ends(table, walk), straight))
        for ring in rings:
            self.assertTrue(is_closed_walk(table, ring))
            passed = walk_things(table, ring)
            self.assertEqual(len(passed) - 1, len(set(passed)))
        self.assertEqual(Counter(walk), Counter(straight + sum(rings, ())))
        weights = walk_weight(table, straight) + sum(walk_weight(table, ring) for ring in rings)
        self.assertEqual(weights, walk_weight(table, walk))

    def test_what_winds_and_what_does_not(self):
        self.assertEqual(unwound(TABLE, ()), ((), ()))
        self.assertEqual(unwound(TABLE, (0, 1)), ((0, 1), ()))
        self.assertEqual(unwound(TABLE, (2, 3)), ((), ((2, 3),)))
        self.assertEqual(unwound(table=TABLE, walk=(2, 3, 0)), ((0,), ((2, 3),)))

    def test_closed_ones(self):
        straight, rings = unwound(TABLE, (0, 1, 3))
        self.assertEqual((straight, [sorted(ring) for ring in rings]), ((), [[0, 1, 3]]))
        self.judge(TABLE, (0, 1, 3, 2, 3))

    def test_rings_in_rings(self):
        table = Table(("a", "b", "c", "d"), ((0, 1, 1), (1, 2, 2), (2, 1, 3), (2, 3, 4), (3, 0, 5), (3, 2, 6)))
        for walk in ((0, 1, 2, 1, 3, 5, 2, 1, 3, 4, 0), (1, 2) * 40 + (1,), (0, 1, 2, 1, 2, 1, 3, 5, 3, 4) * 12):
            self.judge(table, walk)

    def test_any_walks(self):
        chance = random.Random(22)
        for table in small_tables(200, 6, 14, seed=23):
            for many in (1, 2, 3, 7, 40):
                self.judge(table, random_walk(table, chance, many))

    def test_long_ones(self):
        chance = random.Random(24)
        names = tuple("abcdefghijkl")
        ties = tuple((*chance.sample(range(12), 2), chance.randint(-9, 9)) for _ in range(60))
        for many in (100, 499, 500, 501, 900):
            for _ in range(5):
                self.judge(Table(names, ties), random_walk(Table(names, ties), chance, many))

    def test_a_closed_walk_above_0_has_such_a_ring(self):
        chance = random.Random(25)
        found = 0
        for table in small_tables(900, 4, 10, seed=26):
            walk = random_walk(table, chance, 9)
            if is_closed_walk(table, walk) and walk_weight(table, walk) > 0:
                found += 1
                self.assertTrue(any(walk_weight(table, ring) > 0 for ring in unwound(table, walk)[1]))
        self.assertGreater(found, 5)


if __name__ == "__main__":
    unittest.main()
