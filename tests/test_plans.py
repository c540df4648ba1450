"""Point 54: plans."""

import itertools
import random
import unittest

from saidatonce.errors import Refused
from saidatonce.plans import greater_plan, hours_in_plans, is_plan, lesser_plan, plan_by
from saidatonce.tables import Table
from tests.odd import Sour, Yes, keeps, odd_values, small_tables
from tests.slow import great_table, missing_things, random_times, ring_of, slow_rows

TABLE = Table(("a", "b", "c", "d"), ((0, 1, 1), (1, 2, 1), (2, 3, 1), (0, 2, 1), (3, 0, -9)))
SOME = (0, None, None, None)
GREAT = 10 ** 400


def slow_range(table, times, thing, low, high):
    """The times of a thing in plans with all times in a range: the least and the greatest, or None."""
    found = [
        plan[thing] for plan in itertools.product(range(low, high + 1), repeat=len(table.things))
        if keeps(table, plan) and all(time in (None, own) for time, own in zip(times, plan))
    ]
    return (min(found), max(found)) if found else None


class PlanTest(unittest.TestCase):
    def test_plans(self):
        for value in ((0, 1, 2, 3), (0, 1, 2, 9), (0, 7, 8, 9)):
            self.assertIs(is_plan(TABLE, SOME, value), True)
        self.assertIs(is_plan(TABLE, (None,) * 4, (5, 6, 7, 8)), True)
        self.assertIs(is_plan(table=TABLE, times=(0, 1, 2, 3), value=(0, 1, 2, 3)), True)

    def test_integers_of_any_size(self):
        table = Table(("a", "b"), ((0, 1, 1),))
        self.assertIs(is_plan(table, (None, None), (GREAT, GREAT + 1)), True)
        self.assertIs(is_plan(table, (None, None), (GREAT, GREAT)), False)
        self.assertIs(is_plan(table, (-5, None), (-5, GREAT)), True)

    def test_a_tie_is_broken(self):
        for value in ((0, 0, 2, 3), (0, 1, 1, 3), (0, 1, 2, 2), (0, 1, 2, 10), (0, -1, 0, 1)):
            self.assertIs(is_plan(TABLE, SOME, value), False)

    def test_what_has_come_is_as_it_is(self):
        self.assertIs(is_plan(TABLE, SOME, (1, 2, 3, 4)), False)
        self.assertIs(is_plan(TABLE, (None, 2, None, 5), (1, 2, 3, 4)), False)
        self.assertIs(is_plan(TABLE, (None, 2, None, 4), (1, 2, 3, 4)), True)

    def test_values_of_all_kinds(self):
        for value in odd_values() + [(0, 1, 2), (0, 1, 2, 3, 4), [0, 1, 2, 3], (0, 1, 2, None), (None,) * 4, SOME]:
            self.assertIs(is_plan(TABLE, SOME, value), False)
            self.assertIs(is_plan(TABLE, (None,) * 4, value), False)
        for wrong in (True, False, 1.0, "1", None, (1,), [1], Sour(), Yes()):
            for at in range(4):
                self.assertIs(is_plan(TABLE, (None,) * 4, (0, 1, 2, 3)[:at] + (wrong,) + (0, 1, 2, 3)[at + 1:]), False)
                self.assertIs(is_plan(TABLE, (0, 1, 2, 3), (0, 1, 2, 3)[:at] + (wrong,) + (0, 1, 2, 3)[at + 1:]), False)
        self.assertIs(is_plan(Table(("a",), ()), (1,), (True,)), False)


class RangesTest(unittest.TestCase):
    def test_the_example_of_the_document(self):
        self.assertEqual(hours_in_plans(TABLE, SOME, 2), (2, 8))
        self.assertEqual(plan_by(TABLE, (0, None, None, 8), (5, 5, 5, 5)), (0, 5, 6, 8))

    def test_open_ends(self):
        table = Table(tuple("abcd"), ((0, 1, 2), (2, 0, -3)))
        times = (5, None, None, None)
        self.assertEqual(hours_in_plans(table, times, 1), (7, None))
        self.assertEqual(hours_in_plans(table, times, 2), (None, 8))
        self.assertEqual(hours_in_plans(table, times, 3), (None, None))
        self.assertEqual(hours_in_plans(table=table, times=times, thing=0), (5, 5))
        self.assertEqual(hours_in_plans(table, (None,) * 4, 1), (None, None))

    def test_no_plan(self):
        ring = Table(tuple("abc"), ring_of(2, 1))
        cases = ((ring, (None,) * 3), (ring, (None, None, 5)), (TABLE, (0, 0, None, None)), (TABLE, (0, None, None, 2)))
        for table, times in cases:
            for thing in range(len(times)):
                with self.assertRaises(Refused) as caught:
                    hours_in_plans(table, times, thing)
                self.assertEqual(caught.exception.word, "plan")
            self.assertIsNone(plan_by(table, times, (0,) * len(times)))

    def test_against_all_plans(self):
        chance = random.Random(54)
        for table in small_tables(80, 3, 5, -2, 2, seed=54):
            times = random_times(chance, table, 3, 2)
            rows = slow_rows(table, 6)
            for thing in range(len(times)):
                told = slow_range(table, times, thing, -9, 12)
                if told is None:
                    with self.assertRaises(Refused):
                        hours_in_plans(table, times, thing)
                    continue
                low, high = hours_in_plans(table, times, thing)
                here = [other for other, time in enumerate(times) if time is not None]
                self.assertEqual(low is None, all(rows[other][thing] is None for other in here))
                self.assertEqual(high is None, all(rows[thing][other] is None for other in here))
                self.assertTrue(low is None or low == told[0])
                self.assertTrue(high is None or high == told[1])

    def test_each_time_between_is_in_a_plan(self):
        chance = random.Random(55)
        for table in small_tables(80, 6, 9, -4, 2, seed=55):
            times = random_times(chance, table, 4, 3)
            for thing in missing_things(times):
                try:
                    low, high = hours_in_plans(table, times, thing)
                except Refused:
                    continue
                low = -20 if low is None else low
                high = 20 if high is None else high
                for time in range(low, high + 1):
                    behind = times[:thing] + (time,) + times[thing + 1:]
                    plan = plan_by(table, behind, (0,) * len(times))
                    self.assertIs(is_plan(table, times, plan), True)
                    self.assertEqual(plan[thing], time)


class WishesTest(unittest.TestCase):
    def slow_plan(self, table, times, wishes):
        """The plan, thing by thing, by the ranges told with the times before."""
        plan = times
        for thing in missing_things(times):
            low, high = hours_in_plans(table, plan, thing)
            time = wishes[thing]
            if low is not None and time < low:
                time = low
            if high is not None and time > high:
                time = high
            plan = plan[:thing] + (time,) + plan[thing + 1:]
        return plan

    def test_against_the_ranges(self):
        chance = random.Random(56)
        found = 0
        for table in small_tables(200, 6, 9, -4, 1, seed=56):
            times = random_times(chance, table, 4, 3)
            for size in (3, 30, GREAT):
                wishes = tuple(chance.randint(-size, size) for _ in times)
                plan = plan_by(table, times, wishes)
                if plan is None:
                    with self.assertRaises(Refused):
                        hours_in_plans(table, times, 0)
                else:
                    found += 1
                    self.assertEqual(plan, self.slow_plan(table, times, wishes))
                    self.assertIs(is_plan(table, times, plan), True)
        self.assertGreater(found, 100)

    def test_wishes_that_can_be_met(self):
        self.assertEqual(plan_by(TABLE, SOME, (0, 1, 2, 3)), (0, 1, 2, 3))
        self.assertEqual(plan_by(TABLE, SOME, (9, 9, 9, 9)), (0, 7, 8, 9))
        self.assertEqual(plan_by(TABLE, SOME, (9, 3, 0, 0)), (0, 3, 4, 5))
        self.assertEqual(plan_by(table=TABLE, times=(None,) * 4, wishes=(GREAT,) * 4)[0], GREAT)

    def test_great_tables(self):
        chance = random.Random(57)
        for least, most in ((-10 ** 6, -1), (-9, 0)):
            table = great_table(chance, least, most)
            wishes = tuple(chance.randint(-10 ** 7, 10 ** 7) for _ in range(12))
            plan = plan_by(table, (None,) * 12, wishes)
            self.assertIs(is_plan(table, (None,) * 12, plan), True)
            self.assertEqual(plan[0], wishes[0])


class LesserTest(unittest.TestCase):
    def test_they_are_plans(self):
        chance = random.Random(58)
        for table in small_tables(100, 6, 9, -4, 1, seed=58):
            times = random_times(chance, table, 4, 4)
            one, other = (plan_by(table, times, tuple(chance.randint(-9, 9) for _ in times)) for _ in range(2))
            if one is not None:
                for call, choice in ((lesser_plan, min), (greater_plan, max)):
                    plan = call(one, other)
                    self.assertIs(is_plan(table, times, plan), True)
                    self.assertEqual(plan, tuple(map(choice, one, other)))

    def test_names_of_parameters(self):
        self.assertEqual(lesser_plan(one=(0, 5, -1), other=(3, 3, -2)), (0, 3, -2))
        self.assertEqual(greater_plan(one=(0, 5, -1), other=(3, 3, -2)), (3, 5, -1))
        self.assertEqual(lesser_plan((GREAT,), (-GREAT,)), (-GREAT,))


if __name__ == "__main__":
    unittest.main()
