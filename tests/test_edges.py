"""Point 37: why, and why not."""

import random

from saidatonce.court import Barred
from saidatonce.days import said
from saidatonce.edges import edge_walks, why_not
from saidatonce.held import Short, is_held_paper
from saidatonce.ranges import hours_for
from saidatonce.tables import Table
from saidatonce.walks import is_walk_between
from tests.checks import NO_INTEGERS, Checks
from tests.odd import odd_values, small_tables, weight_of
from tests.slow import LETTERS, great_table, product_reach, random_times, ring_of

ROW = Table(("a", "b", "c", "d", "e"), ((0, 1, 1), (1, 2, 1), (2, 3, 1), (3, 4, 1)))
TIMES = (0, None, None, None, 6)
BATCHES = [(), (1,), (2,), (3,), (1, 1), (1, 2), (2, 1), (1, 1, 1), (4,), (12,), (100,) * 60]


class WhyCase(Checks):
    def judge(self, table, times, batches, thing, hour):
        """Nothing is told of an hour, a right paper of the times with any other integer."""
        hours = hours_for(table, times, batches, thing)
        told = why_not(table, times, batches, thing, hour)
        inside = hours is not None and (hours[0] is None or hours[0] <= hour)
        inside = inside and (hours[1] is None or hour <= hours[1])
        self.assertIs(told is None, inside, (table.ties, times, batches, thing, hour))
        if told is not None:
            self.assertIsInstance(told, (Short, Barred))
            self.assertTrue(is_held_paper(table, said(times, ((thing, hour),)), batches, told))

    def judge_edges(self, table, times, batches, thing):
        hours = hours_for(table, times, batches, thing)
        if hours is None:
            self.refused("hours", edge_walks, table, times, batches, thing)
            return
        told = edge_walks(table, times, batches, thing)
        self.assertIsInstance(told, tuple)
        first, last = told
        self.assertIs(first is None, hours[0] is None)
        self.assertIs(last is None, hours[1] is None)
        for walk in told:
            self.assertTrue(walk is None or 1 <= len(walk) <= product_reach(batches))
        if first is not None:
            other = table.ties[first[0]][0]
            self.assertTrue(is_walk_between(table, other, thing, first))
            self.assertNotEqual(other, thing)
            self.assertEqual(times[other] + weight_of(table, first), hours[0])
        if last is not None:
            other = table.ties[last[-1]][1]
            self.assertTrue(is_walk_between(table, thing, other, last))
            self.assertNotEqual(other, thing)
            self.assertEqual(times[other] - weight_of(table, last), hours[1])


class WhyTest(WhyCase):
    def test_the_examples_of_the_document(self):
        self.assertEqual(why_not(ROW, TIMES, (1,), 2, 5).walk, (2, 3))
        self.assertEqual(edge_walks(ROW, TIMES, (1,), 2), ((0, 1), (2, 3)))

    def test_inside_at_the_ends_and_one_beyond(self):
        for hour, told in ((1, Short), (2, None), (3, None), (4, None), (5, Short), (-10 ** 9, Short), (10 ** 9, Short)):
            paper = why_not(ROW, TIMES, (1,), 2, hour)
            self.assertTrue(paper is None if told is None else isinstance(paper, told))

    def test_small_tables(self):
        chance = random.Random(371)
        for table in small_tables(60, 5, 8, -4, 2, seed=371):
            times = random_times(chance, table)
            for batches in BATCHES:
                for thing in range(len(table.things)):
                    for hour in (-10 ** 9, -7, -2, 0, 1, 3, 5, 9, 10 ** 9):
                        self.judge(table, times, batches, thing, hour)

    def test_great_tables(self):
        chance = random.Random(372)
        for least, most in ((-9, 1), (-10 ** 6, 10 ** 6), (-10 ** 6, -1), (-100, 1)):
            for share in (1, 3, 12):
                table = great_table(chance, least, most, 24)
                times = random_times(chance, table, 10, share)
                for batches in BATCHES:
                    for thing in (0, 5, 11):
                        self.judge(table, times, batches, thing, chance.randint(-40, 40))

    def test_rings(self):
        ring = Table(tuple("abc"), ring_of(3, 1))
        self.assertIsInstance(why_not(ring, (None,) * 3, (3,), 0, 5), (Short, Barred))
        self.assertIsNone(why_not(table=ring, times=(None,) * 3, batches=(1,), thing=0, hour=5))
        pair = Table(tuple("abc"), ((0, 1, 1), (1, 0, 0)))
        self.assertIsInstance(why_not(pair, (None,) * 3, (2,), 2, 5), Barred)

    def test_errors(self):
        for hour in (0, None):
            for thing in (2, None):
                for batches in ((), None):
                    self.takes_times(ROW, lambda times: why_not(ROW, times, batches, thing, hour))
                self.takes_batches(lambda batches: why_not(ROW, TIMES, batches, thing, hour))
            for thing in odd_values() + NO_INTEGERS + [5, -1]:
                self.refused("thing", why_not, ROW, TIMES, (1,), thing, hour)
        for hour in odd_values() + NO_INTEGERS + [10 ** 9 + 1, -10 ** 9 - 1, 10 ** 400]:
            for times in (TIMES, (0, 0, None, None, None)):
                self.refused("hour", why_not, ROW, times, (1,), 2, hour)


class EdgesTest(WhyCase):
    def test_small_tables(self):
        chance = random.Random(373)
        for table in small_tables(150, 6, 9, -4, 2, seed=373):
            times = random_times(chance, table)
            for batches in BATCHES:
                for thing in range(len(table.things)):
                    self.judge_edges(table, times, batches, thing)

    def test_great_tables(self):
        chance = random.Random(374)
        for least, most in ((-9, 1), (-10 ** 6, 10 ** 6), (-10 ** 6, -1), (-3, 0), (-100, 1)):
            for share in (1, 3, 12):
                table = great_table(chance, least, most, 24)
                times = random_times(chance, table, 10, share)
                for batches in BATCHES:
                    for thing in range(12):
                        self.judge_edges(table, times, batches, thing)

    def test_round_a_ring_that_no_batch_reaches(self):
        for exit_at in (1, 6, 11):
            ties = [(0, 1, 0)] + [(at, at + 1, 0) for at in range(1, 11)] + [(11, 1, 1), (exit_at, 0, 0)]
            table = Table(tuple(LETTERS), tuple(ties))
            for batches in ((10,), (2, 6), (1, 1, 4), (1, 9), (1, 5)):
                for thing in range(12):
                    self.judge_edges(table, (0,) + (None,) * 11, batches, thing)

    def test_its_own_time(self):
        self.assertEqual(edge_walks(table=ROW, times=(0, None, 9, None, 6), batches=(1,), thing=2), ((0, 1), (2, 3)))
        # not from the thing itself to the thing
        even = Table(("a", "b"), ring_of(2, 0))
        self.assertEqual(edge_walks(even, (0, None), (3,), 0), (None, None))
        self.assertEqual(edge_walks(even, (0, 5), (3,), 0), ((1,), (0,)))

    def test_open_ends(self):
        self.assertEqual(edge_walks(ROW, (None,) * 5, (1,), 2), (None, None))
        self.assertEqual(edge_walks(ROW, (0, None, None, None, None), (1,), 2), ((0, 1), None))
        self.assertEqual(edge_walks(ROW, (None, None, None, None, 0), (1,), 2), (None, (2, 3)))

    def test_without_hours(self):
        self.refused("hours", edge_walks, ROW, (0, None, None, None, 3), (1,), 2)
        self.refused("hours", edge_walks, ROW, (0, 0, None, None, None), (), 2)

    def test_errors(self):
        for thing in (2, None):
            for batches in ((), None):
                self.takes_times(ROW, lambda times: edge_walks(ROW, times, batches, thing))
            self.takes_batches(lambda batches: edge_walks(ROW, (0, 0, None, None, None), batches, thing))
        for thing in odd_values() + NO_INTEGERS + [5, -1]:
            self.refused("thing", edge_walks, ROW, (0, 0, None, None, None), (1,), thing)
