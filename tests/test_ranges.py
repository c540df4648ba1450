"""Points 36 and 38: hours, and how they get fewer."""

import random

from saidatonce.days import course_of, said
from saidatonce.errors import InvalidNumber
from saidatonce.held import is_held
from saidatonce.ranges import all_hours, hours_course, hours_for
from saidatonce.tables import Table
from tests.checks import NO_INTEGERS, Checks
from tests.odd import odd_values, small_tables
from tests.slow import LETTERS, game_keeps, great_table, random_times, ring_of, slow_held

ROW = Table(("a", "b", "c", "d", "e"), ((0, 1, 1), (1, 2, 1), (2, 3, 1), (3, 4, 1)))
TIMES = (0, None, None, None, 6)
BATCHES = [(), (1,), (2,), (3,), (1, 1), (1, 2), (2, 1), (1, 1, 1), (4,), (12,), (100,) * 60]
FAR = 10 ** 8


def with_hour(times, thing, hour):
    return said(times, ((thing, hour),))


class HoursCase(Checks):
    def judge(self, table, times, batches, thing, hours, holds):
        """The hours are those with which the times are held: at both ends, between, and one beyond."""
        if hours is None:
            told = [time for time in times if time is not None] + [0]
            tried = range(min(told) - 20, max(told) + 21) if max(told) - min(told) < 50 else (min(told), max(told))
            for hour in tried:
                self.assertFalse(holds(table, with_hour(times, thing, hour), batches))
            return
        self.assertIsInstance(hours, tuple)
        least, greatest = hours
        inside, outside = [], []
        if least is None:
            inside.append(-FAR if greatest is None else min(-FAR, greatest))
        else:
            inside.append(least)
            outside.append(least - 1)
        if greatest is None:
            inside.append(FAR if least is None else max(FAR, least))
        else:
            inside.append(greatest)
            outside.append(greatest + 1)
        inside.append((inside[0] + inside[1]) // 2)
        for hour in inside:
            self.assertTrue(holds(table, with_hour(times, thing, hour), batches), (table.ties, times, batches, hour))
        for hour in outside:
            self.assertFalse(holds(table, with_hour(times, thing, hour), batches), (table.ties, times, batches, hour))

    def judge_all(self, table, times, batches, holds=is_held):
        told = all_hours(table, times, batches)
        self.assertIsInstance(told, tuple)
        self.assertEqual(told, tuple(hours_for(table, times, batches, at) for at in range(len(table.things))))
        for thing, hours in enumerate(told):
            self.judge(table, times, batches, thing, hours, holds)
        return told


class HoursTest(HoursCase):
    def test_the_examples_of_the_document(self):
        self.assertEqual(hours_for(ROW, TIMES, (1,), 2), (2, 4))
        self.assertEqual(all_hours(ROW, TIMES, (3,))[1:4], ((1, 3), (2, 4), (3, 5)))
        self.assertEqual(hours_for(ROW, TIMES, (), 1), (1, None))

    def test_small_tables(self):
        chance = random.Random(361)
        for table in small_tables(120, 6, 9, -5, 2, seed=361):
            times = random_times(chance, table)
            for batches in BATCHES:
                self.judge_all(table, times, batches)

    def test_by_the_two_sentences(self):
        chance = random.Random(362)
        for table in small_tables(80, 6, 9, -5, 2, seed=362):
            times = random_times(chance, table, 6, 3)
            for batches in BATCHES:
                self.judge_all(table, times, batches, slow_held)

    def test_against_whole_games(self):
        chance = random.Random(363)
        for table in small_tables(40, 3, 5, -3, 2, seed=363):
            times = random_times(chance, table, 3)
            for batches in BATCHES[:7]:
                for thing, hours in enumerate(all_hours(table, times, batches)):
                    for hour in range(-8, 12):
                        told = hours is not None and (hours[0] is None or hours[0] <= hour)
                        told = told and (hours[1] is None or hour <= hours[1])
                        self.assertIs(game_keeps(table, with_hour(times, thing, hour), batches), told)

    def test_great_tables(self):
        chance = random.Random(364)
        for least, most in ((-9, 1), (-10 ** 6, 10 ** 6), (-10 ** 6, -1), (-3, 0), (-100, 1)):
            for share in (1, 3, 12):
                table = great_table(chance, least, most, 24)
                for batches in ((), (2,), (1, 1, 1), (100,) * 60):
                    self.judge_all(table, random_times(chance, table, 10, share), batches)

    def test_no_hours(self):
        ring = Table(tuple("abc"), ring_of(3, 1))
        self.assertEqual(all_hours(ring, (None,) * 3, ()), ((None, None),) * 3)
        self.assertEqual(all_hours(ring, (None,) * 3, (1,)), ((None, None),) * 3)
        self.assertEqual(all_hours(ring, (None,) * 3, (2,)), (None,) * 3)
        self.assertEqual(all_hours(ring, (None,) * 3, (1, 1)), (None,) * 3)
        # a ring through what is missing still
        table = Table(tuple("abc"), ((0, 1, 1), (1, 0, 0)))
        self.assertEqual(all_hours(table, (None,) * 3, (1,)), (None, None, (None, None)))
        self.assertEqual(all_hours(table, (None,) * 3, (2,)), (None, None, None))
        # others that break a tie; their own times do not count for themselves
        self.assertEqual(all_hours(ROW, (0, 0, None, None, None), ()), ((None, -1), (1, None), None, None, None))

    def test_a_time_that_it_has_is_forgotten(self):
        for time in (None, -10 ** 9, 0, 3, 10 ** 9):
            self.assertEqual(hours_for(ROW, (0, None, time, None, 6), (1,), 2), (2, 4))
            self.assertEqual(hours_for(ROW, (time, None, 3, None, 6), (1,), 0), (None, 1))

    def test_open_ends(self):
        self.assertEqual(hours_for(table=ROW, times=(None,) * 5, batches=(1,), thing=0), (None, None))
        self.assertEqual(hours_for(ROW, (None, None, 0, None, None), (1,), 0), (None, -2))
        self.assertEqual(hours_for(ROW, (None, None, 0, None, None), (1,), 4), (2, None))
        self.assertEqual(hours_for(ROW, (None, None, 0, None, None), (), 4), (None, None))

    def test_rings_no_batch_reaches(self):
        # the walk goes round a ring above 0 once, as it is too long to bar what is missing
        for exit_at in (1, 6, 11):
            ties = [(0, 1, 0)] + [(at, at + 1, 0) for at in range(1, 11)] + [(11, 1, 1), (exit_at, 0, 0)]
            table = Table(tuple(LETTERS), tuple(ties))
            for batches in ((10,), (1, 1, 4), (1, 9), (1, 5)):
                self.judge_all(table, (0,) + (None,) * 11, batches, slow_held)
                for times in ((None,) * 12, (0,) + (None,) * 5 + (3,) + (None,) * 5):
                    self.judge_all(table, times, batches)

    def test_missing_things_have_hours_if_one_order_more_is_held(self):
        chance = random.Random(365)
        for table in small_tables(150, 6, 10, -4, 2, seed=365):
            times = random_times(chance, table)
            for batches in BATCHES[:8]:
                if is_held(table, times, (1,) + batches):
                    told = all_hours(table, times, batches)
                    self.assertTrue(all(told[at] is not None for at, time in enumerate(times) if time is None))

    def test_at_the_bounds_of_times(self):
        table = Table(("a", "b"), ((0, 1, 10 ** 6), (1, 0, -10 ** 6)))
        self.assertEqual(hours_for(table, (10 ** 9, None), (), 1), (10 ** 9 + 10 ** 6,) * 2)
        self.assertEqual(hours_for(table, (None, -10 ** 9), (), 0), (-10 ** 9 - 10 ** 6,) * 2)


class CourseTest(HoursCase):
    def test_within_those_before(self):
        chance = random.Random(366)
        for table in small_tables(200, 6, 9, -5, 2, seed=366):
            things = list(range(len(table.things)))
            chance.shuffle(things)
            day = []
            while things and chance.random() < 0.9:
                lot = sorted(things[:chance.choice((1, 1, 2, 3))])
                things = [thing for thing in things if thing not in lot]
                day.append(tuple((thing, chance.randint(-3, 6)) for thing in lot))
            for batches in BATCHES[:8]:
                for thing in range(len(table.things)):
                    told = hours_course(table, tuple(day), batches, thing)
                    course = course_of(table, tuple(day))
                    self.assertEqual(told, tuple(hours_for(table, times, batches, thing) for times in course))
                    for before, behind in zip(told, told[1:]):
                        self.assertTrue(self.is_within(behind, before))

    def is_within(self, one, other):
        if one is None or other is None:
            return one is None
        low = other[0] is None or one[0] is not None and one[0] >= other[0]
        return low and (other[1] is None or one[1] is not None and one[1] <= other[1])

    def test_days(self):
        day = (((0, 0),), ((4, 6),), ((1, 1), (3, 4)))
        self.assertEqual(hours_course(ROW, day, (1,), 2), ((None, None), (2, None), (2, 4), (2, 3)))
        self.assertEqual(hours_course(table=ROW, day=(), batches=(1,), thing=2), ((None, None),))
        # its own time is forgotten
        self.assertEqual(hours_course(ROW, (((0, 0),), ((1, 9),)), (), 1), ((None, None), (1, None), (1, None)))

    def test_errors(self):
        day = (((0, 0),), ((1, 0),))
        self.takes_batches(lambda batches: hours_course(ROW, day, batches, None))
        self.takes_batches(lambda batches: hours_course(ROW, day, batches, 0))
        for thing in odd_values() + NO_INTEGERS + [5, -1, 10 ** 400]:
            self.refused("thing", hours_course, ROW, day, (), thing)


class ErrorsTest(Checks):
    def test_times(self):
        for batches in ((), None):
            self.takes_times(ROW, lambda times: all_hours(ROW, times, batches))
            for thing in (0, None):
                self.takes_times(ROW, lambda times: hours_for(ROW, times, batches, thing))

    def test_batches(self):
        self.takes_batches(lambda batches: all_hours(ROW, TIMES, batches))
        for thing in (0, None):
            self.takes_batches(lambda batches: hours_for(ROW, TIMES, batches, thing))
        self.raised(InvalidNumber, "batches", hours_for, ROW, TIMES, None, None)

    def test_things(self):
        for thing in odd_values() + NO_INTEGERS + [5, -1, 10 ** 400]:
            for times in (TIMES, (0, 0, None, None, None)):
                self.refused("thing", hours_for, ROW, times, (1,), thing)
