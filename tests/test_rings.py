"""Points 29 and 30: how many orders beat every clerk from nothing, what is barred, how ties are eased."""

import random

from saidatonce.court import Barred, court, is_safe
from saidatonce.errors import InvalidNumber
from saidatonce.held import is_held
from saidatonce.reach import ring_reach
from saidatonce.rings import barred_things, beaten_at, fewest_batches, fewest_orders, least_easing, ring_length
from saidatonce.tables import Table
from tests.checks import NO_INTEGERS, Checks
from tests.odd import odd_values, small_tables, walks_from, weight_of
from tests.slow import LETTERS, first_reach, game_keeps, great_table, random_times, ring_of, slow_rows

RING = Table(("ale", "bun", "cod", "dab"), ((0, 1, 1), (1, 2, 1), (2, 3, 1), (3, 0, -2)))
# the ring of b and c weighs 2; three times round it makes up for the way to a and back
EIGHT = Table(tuple("abc"), ((0, 1, -5), (1, 0, 0), (1, 2, 3), (2, 1, -1)))
BATCHES = [(), (1,), (2,), (3,), (1, 1), (1, 2), (2, 1), (1, 1, 1), (2, 2, 1), (4,)]


def rings_of(table):
    """All closed walks that pass no thing twice but the first one, from each of their things."""
    found = []
    walks = [((number,), tie[0], (tie[0], tie[1])) for number, tie in enumerate(table.ties)]
    while walks:
        walk, first, passed = walks.pop()
        for number, (x, y, _) in enumerate(table.ties):
            if x == passed[-1] and y == first:
                found.append(walk + (number,))
            elif x == passed[-1] and y not in passed:
                walks.append((walk + (number,), first, passed + (y,)))
    return found


def lessened(table, by):
    return Table(table.things, tuple((x, y, weight - by) for x, y, weight in table.ties))


def slow_easing(table, batches):
    """By how much all weights are lessened, step by step, until the table is safe."""
    by = 0
    while not is_safe(lessened(table, by), batches):
        by += 1
    return by


class LengthTest(Checks):
    def test_the_examples_of_the_document(self):
        self.assertEqual((fewest_orders(RING), fewest_batches(RING, 3), beaten_at(RING, (1, 1, 1, 5))), (3, 2, 3))
        self.assertEqual(least_easing(RING, (2, 1)), 1)
        self.assertEqual((barred_things(RING, (1, 1)), barred_things(RING, (2, 1))), ((), (0, 1, 2, 3)))

    def test_against_all_rings(self):
        for table in small_tables(150, 5, 9, -3, 2, seed=29):
            lengths = [len(ring) for ring in rings_of(table) if weight_of(table, ring) > 0]
            self.assertEqual(ring_length(table), min(lengths, default=None))

    def test_what_court_tells_has_the_fewest_ties(self):
        for table in small_tables(100, 6, 12, -3, 2, seed=30):
            for batches in BATCHES + [(100,) * 60]:
                verdict = court(table, batches)
                length = ring_length(table)
                if isinstance(verdict, Barred):
                    self.assertEqual(len(verdict.walk), length)
                else:
                    self.assertTrue(length is None or length > first_reach(batches))

    def test_rings_of_all_lengths(self):
        for count in range(2, 13):
            table = Table(tuple(LETTERS[:count]), ring_of(count, 1))
            self.assertEqual(ring_length(table=table), count)
            doublings = 0
            while 2 ** doublings < count:
                doublings += 1
            self.assertEqual(fewest_orders(table=table), 1 + doublings)
            # known together: as many things as the ring has ties
            for size in range(1, 14):
                self.assertIs(beaten_at(table, (size,)) == 1, size >= count)
                self.assertIs(fewest_batches(table, size) == 1, size >= count)
            for weight in (0, -1):
                even = Table(tuple(LETTERS[:count]), ring_of(count, weight))
                for told in (ring_length(even), fewest_orders(even), fewest_batches(even, 100),
                             beaten_at(even, (100,) * 60)):
                    self.assertIsNone(told)

    def test_great_tables(self):
        chance = random.Random(29)
        for least, most in ((-9, 1), (-10 ** 6, 10 ** 6), (-10 ** 6, -1), (-3, 0)):
            table = great_table(chance, least, most)
            told = [ties for ties in range(1, 13) if max(slow_rows(table, ties)[at][at] for at in range(12)) > 0]
            self.assertEqual(ring_length(table), min(told, default=None))


class ManyTest(Checks):
    def test_one_number_of_batches_after_another(self):
        for table in small_tables(120, 6, 10, -2, 2, seed=31):
            for size in (1, 2, 3, 7, 100):
                beaten = [many for many in range(8) if not is_safe(table, (size,) * many)]
                self.assertEqual(fewest_batches(table, size), min(beaten, default=None))
            self.assertEqual(fewest_orders(table), fewest_batches(table, 1))
            for batches in BATCHES + [(1,) * 60, (1, 100), (3, 1, 1, 1)]:
                beaten = [many for many in range(len(batches) + 1) if not is_safe(table, batches[:many])]
                self.assertEqual(beaten_at(table, batches), min(beaten, default=None))

    def test_against_whole_games(self):
        for table in small_tables(40, 3, 5, -2, 2, seed=32):
            nothing = (None,) * len(table.things)
            told = [many for many in range(5) if not game_keeps(table, nothing, (1,) * many)]
            self.assertEqual(fewest_orders(table), min(told, default=None))
            told = [many for many in range(4) if not game_keeps(table, nothing, (2,) * many)]
            self.assertEqual(fewest_batches(table, 2), min(told, default=None))
            told = [many for many in range(3) if not game_keeps(table, nothing, (1, 2)[:many])]
            self.assertEqual(beaten_at(table, (1, 2)), min(told, default=None))

    def test_sizes(self):
        self.assertEqual(fewest_batches(RING, 1), 3)
        self.assertEqual(fewest_batches(table=RING, size=100), 1)
        for size in odd_values() + NO_INTEGERS + [0, -1, 101, 10 ** 400, -10 ** 400]:
            for table in (RING, Table(("a",), ())):
                self.raised(InvalidNumber, "size", fewest_batches, table, size)

    def test_batches(self):
        self.assertEqual(beaten_at(table=RING, batches=(4,)), 1)
        self.assertIsNone(beaten_at(RING, ()))
        self.assertIsNone(beaten_at(RING, (1, 1)))
        for table in (RING, Table(("a",), ())):
            self.takes_batches(lambda batches: beaten_at(table, batches))


class BarredThingsTest(Checks):
    def test_walks_that_pass_a_thing_twice(self):
        # a is on such a walk of 8 ties, 6 of them round the ring of b and c
        told = {0: (), 1: (), 2: (1, 2), 3: (1, 2), 4: (1, 2), 5: (1, 2), 6: (1, 2), 7: (1, 2), 8: (0, 1, 2)}
        for reach, things in told.items():
            batches = (reach,) if reach else ()
            self.assertEqual(ring_reach(batches), reach)
            self.assertEqual(barred_things(EIGHT, batches), things)
        self.assertEqual(barred_things(table=EIGHT, batches=(1, 1, 1, 1)), (0, 1, 2))

    def test_far_loops(self):
        # a is 10^6 away, and the ring makes up 1 each time round
        table = Table(tuple("abc"), ((0, 1, -10 ** 6), (1, 0, 0), (1, 2, 1), (2, 1, 0)))
        # 2 to the power of 20 ties are too few, of 21 enough
        self.assertEqual(barred_things(table, (1,) * 21), (1, 2))
        self.assertEqual(barred_things(table, (1,) * 22), (0, 1, 2))
        self.assertEqual(barred_things(table, (100,) * 60), (0, 1, 2))

    def test_against_all_walks(self):
        for table in small_tables(80, 3, 5, -3, 2, seed=33):
            for batches in BATCHES[:8]:
                most = first_reach(batches)
                things = [
                    thing for thing in range(len(table.things))
                    if any(end == thing and weight_of(table, walk) > 0 for walk, end in walks_from(table, thing, most))
                ]
                self.assertEqual(barred_things(table, batches), tuple(things))

    def test_as_long_as_one_has_not_come_no_clerk_can(self):
        chance = random.Random(34)
        for table in small_tables(100, 5, 9, -3, 2, seed=34):
            for batches in BATCHES:
                things = barred_things(table, batches)
                self.assertIs(things == (), is_safe(table, batches))
                for _ in range(5):
                    times = random_times(chance, table, 9)
                    if any(times[thing] is None for thing in things):
                        self.assertIs(is_held(table, times, batches), False)

    def test_great_tables(self):
        chance = random.Random(35)
        for least, most in ((-9, 1), (-10 ** 6, 10 ** 6), (-10 ** 6, -1), (-3, 0)):
            table = great_table(chance, least, most, 20)
            for batches in BATCHES + [(1, 9), (30,), (1,) * 6]:
                rows = slow_rows(table, first_reach(batches))
                told = tuple(thing for thing in range(12) if rows[thing][thing] > 0)
                self.assertEqual(barred_things(table, batches), told)
            barred_things(table, (100,) * 60)

    def test_batches(self):
        self.takes_batches(lambda batches: barred_things(RING, batches))


class EasingTest(Checks):
    def test_step_by_step(self):
        for table in small_tables(120, 5, 9, -4, 6, seed=36):
            for batches in BATCHES + [(9,), (100,) * 60]:
                self.assertEqual(least_easing(table, batches), slow_easing(table, batches))

    def test_a_safe_table(self):
        for table in (Table(("a",), ()), Table(("a", "b"), ()), Table(("a", "b"), ((0, 1, 10 ** 6),)),
                      Table(("a", "b"), ring_of(2, 0))):
            for batches in BATCHES:
                self.assertEqual(least_easing(table, batches), 0)
        self.assertEqual(least_easing(table=RING, batches=(1, 1)), 0)

    def test_great_weights(self):
        # divided and rounded up
        for one, other, told in ((10 ** 6, 10 ** 6, 10 ** 6), (10 ** 6, -10 ** 6, 0), (10 ** 6, 1 - 10 ** 6, 1),
                                 (10 ** 6, 10 ** 6 - 1, 10 ** 6), (10 ** 6, -1, 500000), (10 ** 6, -2, 499999),
                                 (1, 0, 1), (2, 0, 1), (3, 0, 2), (-5, -5, 0)):
            table = Table(("a", "b"), ((0, 1, one), (1, 0, other)))
            for batches in ((2,), (1, 1), (100,) * 60):
                self.assertEqual(least_easing(table, batches), told)
            self.assertEqual(least_easing(table, (1,)), 0)
            self.assertEqual(least_easing(table, ()), 0)

    def test_the_greatest_of_the_means_of_walks(self):
        for table in small_tables(60, 3, 5, -3, 4, seed=37):
            for batches in BATCHES[:8]:
                means = [0]
                for thing in range(len(table.things)):
                    for walk, end in walks_from(table, thing, first_reach(batches)):
                        if walk and end == thing:
                            means.append(-(-weight_of(table, walk) // len(walk)))
                self.assertEqual(least_easing(table, batches), max(means))

    def test_great_tables(self):
        chance = random.Random(38)
        for least, most in ((-9, 1), (-30, 10), (-10 ** 6, -1)):
            table = great_table(chance, least, most)
            for batches in ((3,), (1, 1, 1), (100,)):
                self.assertEqual(least_easing(table, batches), slow_easing(table, batches))

    def test_batches(self):
        self.takes_batches(lambda batches: least_easing(RING, batches))
