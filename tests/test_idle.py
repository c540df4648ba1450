"""Point 56: ties that tell nothing."""

import itertools
import random
import unittest

from saidatonce.errors import Refused
from saidatonce.idle import breaking_plan, core_ties, idle_ties, idle_walk, is_core, telling_plan
from saidatonce.steady import barring_walk, final_weights
from saidatonce.tables import Table, without_ties
from tests.odd import Sour, Yes, keeps, odd_values, small_tables, weight_of
from tests.slow import LETTERS, all_plans, great_table, ring_of

TABLE = Table(("a", "b", "c", "d"), ((0, 1, 1), (1, 2, 1), (2, 3, 1), (0, 2, 1), (3, 0, -9)))
RING = Table(tuple("abc"), ring_of(3, 1, (0, 2, -5)))
ZERO = Table(tuple("abc"), ring_of(3, 0, (1, 0, 0)))


def free_tables(many, seed, things=5, ties=8, least=-4, most=1):
    """Tables without closed walks above 0."""
    tables = small_tables(many, things, ties, least, most, seed=seed)
    return [table for table in tables if barring_walk(table, 12) is None]


def slow_idle(table, tie):
    """Whether the greatest weight without a tie, from its first thing to its second one, is no less."""
    one, other, weight = table.ties[tie]
    told = final_weights(without_ties(table, (tie,)))[one][other]
    return told is not None and told >= weight


def only(table, lot):
    return Table(table.things, tuple(table.ties[number] for number in lot))


def lots(count):
    return itertools.chain.from_iterable(itertools.combinations(range(count), size) for size in range(count + 1))


class IdleTest(unittest.TestCase):
    def test_the_example_of_the_document(self):
        self.assertEqual((core_ties(TABLE), idle_ties(TABLE), idle_walk(TABLE, 3)), ((0, 1, 2, 4), (3,), (0, 1)))

    def judge(self, table):
        idle = idle_ties(table)
        self.assertEqual(idle, tuple(tie for tie in range(len(table.ties)) if slow_idle(table, tie)))
        for tie, (one, other, weight) in enumerate(table.ties):
            walk = idle_walk(table, tie)
            if tie not in idle:
                self.assertIsNone(walk)
                continue
            self.assertIsInstance(walk, tuple)
            self.assertNotIn(tie, walk)
            self.assertEqual((table.ties[walk[0]][0], table.ties[walk[-1]][1]), (one, other))
            for before, behind in zip(walk, walk[1:]):
                self.assertEqual(table.ties[before][1], table.ties[behind][0])
            self.assertGreaterEqual(weight_of(table, walk), weight)

    def test_against_greatest_weights(self):
        for table in free_tables(200, 56) + [TABLE, ZERO]:
            self.judge(table)

    def test_great_tables(self):
        chance = random.Random(57)
        for least, most in ((-10 ** 6, -1), (-9, 0), (0, 0)):
            self.judge(great_table(chance, least, most))

    def test_exactly_idle_ones_change_nothing(self):
        for table in free_tables(60, 58, 3, 5, -2, 1):
            plans = all_plans(table, 0, 5)
            for tie in range(len(table.ties)):
                less = without_ties(table, (tie,))
                if tie in idle_ties(table):
                    self.assertEqual(all_plans(less, 0, 5), plans)
                else:
                    plan = breaking_plan(table, tie)
                    self.assertTrue(keeps(less, plan) and not keeps(table, plan))

    def test_ties_of_one_pair(self):
        table = Table(("a", "b"), ((0, 1, 2), (0, 1, 2), (0, 1, 1), (1, 0, -9)))
        self.assertEqual(idle_ties(table), (0, 1, 2))
        self.assertEqual((idle_walk(table, 0), idle_walk(table, 1)), ((1,), (0,)))
        self.assertIn(idle_walk(table=table, tie=2), ((0,), (1,)))
        self.assertIsNone(idle_walk(table, 3))

    def test_no_ties(self):
        table = Table(("a",), ())
        self.assertEqual((idle_ties(table), core_ties(table), is_core(table, ())), ((), (), True))


class CoreTest(unittest.TestCase):
    def slow_core(self, table, lot):
        alone = only(table, lot)
        same = final_weights(alone) == final_weights(table)
        return same and not any(slow_idle(alone, tie) for tie in range(len(lot)))

    def test_against_all_lots(self):
        for table in free_tables(60, 59, 4, 6) + [ZERO]:
            cores = [lot for lot in lots(len(table.ties)) if self.slow_core(table, lot)]
            core = core_ties(table)
            self.assertIn(core, cores)
            for lot in lots(len(table.ties)):
                self.assertIs(is_core(table, lot), lot in cores)
            weights = [(x, y, weight) for x, y, weight in table.ties]
            sharper = Table(table.things, tuple((x, y, 12 * weight + 1) for x, y, weight in weights))
            if barring_walk(sharper, 12) is None:
                # all closed walks weigh less than 0
                if len(set(weights)) == len(weights):
                    left = tuple(tie for tie in range(len(weights)) if tie not in idle_ties(table))
                    self.assertEqual(cores, [left])

    def test_the_plans_of_a_core(self):
        for table in free_tables(60, 60, 3, 6, -2, 1):
            self.assertEqual(all_plans(only(table, core_ties(table=table)), 0, 5), all_plans(table, 0, 5))

    def test_each_clause(self):
        self.assertIs(is_core(TABLE, (0, 1, 2, 4)), True)
        # a tie that is idle there
        self.assertIs(is_core(TABLE, (0, 1, 2, 3, 4)), False)
        # other plans
        for lot in ((0, 1, 2), (1, 2, 3, 4), (0, 1, 4), (), (0, 2, 3, 4)):
            self.assertIs(is_core(table=TABLE, value=lot), False)

    def test_several_ties_of_one_pair_with_the_same_weight(self):
        table = Table(("a", "b"), ((0, 1, 2), (0, 1, 2), (0, 1, 1)))
        for lot, told in (((0,), True), ((1,), True), ((2,), False), ((0, 1), False), ((0, 2), False), ((), False)):
            self.assertIs(is_core(table, lot), told)
        self.assertIn(core_ties(table), ((0,), (1,)))

    def test_rings_at_0(self):
        # a ring of three ties, either way, or two rings of two ties, tell the same
        table = Table(tuple("abc"), ((0, 1, 0), (1, 0, 0), (1, 2, 0), (2, 1, 0), (0, 2, 0), (2, 0, 0)))
        cores = [lot for lot in lots(6) if is_core(table, lot)]
        self.assertEqual(cores, [lot for lot in lots(6) if self.slow_core(table, lot)])
        self.assertTrue({3, 4} == {len(lot) for lot in cores})
        self.assertIn(core_ties(table), cores)

    def test_values_of_all_kinds(self):
        wrong = odd_values() + [
            [0, 1, 2, 4], (0, 1, 4, 2), (0, 1, 2, 4, 4), (0, 1, 2, 5), (-1, 0, 1, 2), (False, 1, 2, 4), (0, True, 2, 4),
            (0, 1.0, 2, 4), (0, 1, 2, "4"), (0, 1, 2, 4, None), ((0, 1, 2, 4),), (0, 1, 2, Sour()), (0, 1, 2, Yes()),
        ]
        for value in wrong:
            self.assertIs(is_core(TABLE, value), False)


class PlansTest(unittest.TestCase):
    def test_breaking_plans(self):
        for table in free_tables(150, 61) + [TABLE, ZERO]:
            for tie, (one, other, weight) in enumerate(table.ties):
                if slow_idle(table, tie):
                    with self.assertRaises(Refused) as caught:
                        breaking_plan(table, tie)
                    self.assertEqual(caught.exception.word, "idle")
                else:
                    plan = breaking_plan(table=table, tie=tie)
                    self.assertEqual(len(plan), len(table.things))
                    self.assertTrue(all(type(time) is int for time in plan))
                    self.assertTrue(keeps(without_ties(table, (tie,)), plan))
                    self.assertLess(plan[other] - plan[one], weight)

    def judge(self, table, other):
        plan = telling_plan(table, other)
        ringed = [barring_walk(told, 12) is not None for told in (table, other)]
        if ringed == [True, True] or ringed == [False, False] and final_weights(table) == final_weights(other):
            self.assertIsNone(plan)
            return False
        self.assertEqual(len(plan), len(table.things))
        self.assertTrue(all(type(time) is int for time in plan))
        self.assertNotEqual(keeps(table, plan), keeps(other, plan))
        return True

    def test_telling_plans(self):
        tables = small_tables(250, 4, 7, -4, 2, seed=62)
        by_things = {}
        for table in tables:
            by_things.setdefault(table.things, []).append(table)
        told = 0
        for group in by_things.values():
            for one, other in itertools.islice(itertools.product(group, repeat=2), 600):
                told += self.judge(one, other)
        self.assertGreater(told, 500)

    def test_telling_plans_of_a_table_and_its_likes(self):
        for table in free_tables(120, 63, 5, 9):
            self.assertIsNone(telling_plan(table=table, other=table))
            self.assertIsNone(telling_plan(table, only(table, core_ties(table))))
            for tie, (x, y, weight) in enumerate(table.ties):
                less = without_ties(table, (tie,))
                self.assertEqual(self.judge(table, less), tie not in idle_ties(table))
                self.judge(less, table)
                sharper = Table(table.things, table.ties + ((x, y, weight + 1),))
                self.judge(sharper, table)
                self.judge(table, sharper)

    def test_rings(self):
        even = Table(tuple("abc"), ring_of(3, 0))
        self.assertIsNone(telling_plan(RING, Table(tuple("abc"), ring_of(2, 1))))
        self.assertTrue(keeps(even, telling_plan(RING, even)))
        self.assertTrue(keeps(even, telling_plan(even, RING)))

    def test_against_all_times(self):
        for one, other in zip(free_tables(60, 64, 3, 4, -2, 1), free_tables(60, 65, 3, 4, -2, 1)):
            if one.things == other.things:
                self.assertEqual(telling_plan(one, other) is None, all_plans(one, 0, 8) == all_plans(other, 0, 8))

    def test_great_weights(self):
        one = Table(tuple(LETTERS), tuple((at, at + 1, 10 ** 6) for at in range(11)))
        self.assertFalse(self.judge(one, Table(tuple(LETTERS), one.ties + ((0, 11, 10 ** 6),))))
        self.assertTrue(self.judge(one, Table(tuple(LETTERS), one.ties + ((11, 0, -10 ** 6),))))
        self.assertTrue(self.judge(one, Table(tuple(LETTERS), one.ties[:-1])))
        self.assertTrue(self.judge(Table(tuple(LETTERS), ()), one))


class RaisedTest(unittest.TestCase):
    def test_rings_above_0(self):
        for call in (
            lambda: idle_walk(RING, 3), lambda: idle_ties(RING), lambda: core_ties(RING),
            lambda: breaking_plan(RING, 0),
            # a tie that is idle, too
            lambda: breaking_plan(Table(tuple("ab"), ring_of(2, 1, (0, 1, -5))), 2),
            lambda: is_core(RING, ()), lambda: is_core(RING, None), lambda: is_core(RING, Sour()),
        ):
            with self.assertRaises(Refused) as caught:
                call()
            self.assertEqual(caught.exception.word, "ring")

    def test_rings_of_0(self):
        self.assertEqual(idle_ties(Table(tuple("abc"), ring_of(3, 0))), ())
        with self.assertRaises(Refused) as caught:
            breaking_plan(ZERO, 3)
        self.assertEqual(caught.exception.word, "idle")


if __name__ == "__main__":
    unittest.main()
