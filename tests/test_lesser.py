"""Point 60: lesser forecasts, hours by forecasts, helpful news."""

import itertools
import random
import time

from saidatonce.days import said
from saidatonce.errors import InvalidNumber
from saidatonce.forecasts import news_behind, plain_forecast
from saidatonce.foretold import is_held_by
from saidatonce.lesser import helpful_news, hours_by_forecast, is_lesser
from saidatonce.ranges import hours_for
from saidatonce.tables import Table
from tests.checks import NO_INTEGERS, Checks
from tests.forecasting import random_forecast, slow_held_by
from tests.odd import odd_values, small_tables
from tests.slow import LETTERS, great_table, random_times, ring_of

ROW = Table(("a", "b", "c", "d", "e"), ((0, 1, 1), (1, 2, 1), (2, 3, 1), (3, 4, 1)))
TIMES, FIRST, LAST = (0, None, None, None, 3), ((2,), 1), ((1, 3), 1)


def is_lesser_by_all_ways(one, other):
    """Whether any way to put calls onto unlike calls in the same sequence is right."""
    return any(
        all(set(call[0]) <= set(other[at][0]) and call[1] <= other[at][1] for call, at in zip(one, places))
        for places in itertools.combinations(range(len(other)), len(one))
    )


def lessened(chance, forecast):
    """Some lesser forecast."""
    found = []
    for lot, number in forecast:
        if chance.random() < 0.8:
            found.append((tuple(thing for thing in lot if chance.random() < 0.8), chance.randint(1, number)))
    return tuple(found)


class LesserTest(Checks):
    def test_the_examples_of_the_document(self):
        self.assertIs(is_lesser((LAST,), (FIRST, LAST)), True)
        self.assertEqual(helpful_news(ROW, TIMES, (FIRST, LAST)), ((0, 2), (1, 1), (1, 3)))
        self.assertEqual(hours_by_forecast(ROW, (0, None, None, None, 6), (LAST,), 2), (2, 4))

    def test_against_all_ways(self):
        chance = random.Random(601)
        told = []
        for table in small_tables(60, 3, 3, -1, 1, seed=601):
            for _ in range(25):
                one, other = random_forecast(chance, table, 3, 3), random_forecast(chance, table, 5, 3)
                told.append(is_lesser(one, other))
                self.assertIs(told[-1], is_lesser_by_all_ways(one, other), (one, other))
                lesser = lessened(chance, other)
                self.assertIs(is_lesser(lesser, other), True)
        self.assertGreater(told.count(True), 100)
        self.assertGreater(told.count(False), 100)

    def test_ends(self):
        call = ((0, 1), 2)
        for one, other, told in (
            ((), (), True), ((), (call,), True), ((call,), (), False), ((call,), (call,), True),
            ((call, call), (call,), False), ((((0,), 2),), (call,), True), ((((0,), 3),), (call,), False),
            ((((0, 2), 1),), (call,), False), ((((), 1),), (call,), True), ((((), 3),), (call,), False),
            ((((0,), 1), ((1,), 1)), (((0,), 1), ((1,), 1)), True),
            ((((0,), 1), ((1,), 1)), (((1,), 1), ((0,), 1)), False),
            ((((0,), 1), ((1,), 1)), (((1,), 1), ((0,), 1), ((1,), 1)), True),
            ((call,) * 60, (call,) * 60, True),
        ):
            self.assertIs(is_lesser(one, other), told)
        self.assertIs(is_lesser(one=(), other=()), True)

    def test_what_is_held_is_held_by_lesser_ones(self):
        chance = random.Random(602)
        many = 0
        for table in small_tables(200, 5, 9, -4, 2, seed=602):
            times = random_times(chance, table)
            forecast = random_forecast(chance, table, 4)
            lesser = lessened(chance, forecast)
            if is_held_by(table, times, forecast):
                many += 1
                self.assertIs(is_held_by(table, times, lesser), True)
        self.assertGreater(many, 50)


class HoursTest(Checks):
    def judge(self, table, times, forecast, thing, holds=is_held_by):
        told = hours_by_forecast(table, times, forecast, thing)
        ends = [end for end in told or () if end is not None]
        hours = [end + by for end in ends for by in (-1, 0, 1)] + list(range(-8, 12, 3)) + [-10 ** 8, 10 ** 8]
        for hour in hours:
            inside = told is not None and (told[0] is None or told[0] <= hour) and (told[1] is None or hour <= told[1])
            self.assertIs(holds(table, said(times, ((thing, hour),)), forecast), inside)
        return told

    def test_at_both_ends_and_one_beyond(self):
        chance = random.Random(603)
        kinds = []
        for table in small_tables(200, 5, 9, -5, 2, seed=603):
            times = random_times(chance, table)
            for _ in range(2):
                forecast = random_forecast(chance, table, 4)
                for thing in range(len(table.things)):
                    told = self.judge(table, times, forecast, thing)
                    kinds.append(told and (told[0] is None, told[1] is None))
        self.assertEqual(len(set(kinds)), 5)

    def test_by_the_words_of_the_document(self):
        chance = random.Random(604)
        for table in small_tables(80, 5, 9, -5, 2, seed=604):
            times = random_times(chance, table)
            forecast = random_forecast(chance, table, 4)
            for thing in range(len(table.things)):
                self.judge(table, times, forecast, thing, slow_held_by)

    def test_plain_forecasts(self):
        chance = random.Random(605)
        for table in small_tables(100, 5, 9, -5, 2, seed=605):
            times = random_times(chance, table)
            for batches in ((), (1,), (2,), (1, 1), (2, 1), (100,) * 60):
                for thing in range(len(table.things)):
                    told = hours_by_forecast(table, times, plain_forecast(table, batches), thing)
                    self.assertEqual(told, hours_for(table, times, batches, thing))

    def test_all_of_them_are_hours_for_a_lesser_one(self):
        chance = random.Random(606)
        for table in small_tables(150, 5, 9, -5, 2, seed=606):
            times = random_times(chance, table)
            forecast = random_forecast(chance, table, 4)
            lesser = lessened(chance, forecast)
            for thing in range(len(table.things)):
                one = hours_by_forecast(table, times, forecast, thing)
                if one is not None:
                    other = hours_by_forecast(table, times, lesser, thing)
                    self.assertTrue(other[0] is None or one[0] is not None and one[0] >= other[0])
                    self.assertTrue(other[1] is None or one[1] is not None and one[1] <= other[1])

    def test_its_own_time_is_forgotten(self):
        for own in (None, 0, 3, 10 ** 9):
            told = hours_by_forecast(table=ROW, times=(0, None, own, None, 6), forecast=(LAST,), thing=2)
            self.assertEqual(told, (2, 4))
        # it does not come again
        ring = Table(("a", "b"), ring_of(2, 1))
        self.assertEqual(hours_by_forecast(ring, (None, None), (((0,), 5),), 0), (None, None))
        self.assertIsNone(hours_by_forecast(ring, (None, None), (((0, 1), 1),), 0))
        self.assertIsNone(hours_by_forecast(ring, (None, None), (((0, 1), 2),), 0))

    def test_errors(self):
        for thing in (2, None):
            for forecast in ((LAST,), None):
                self.takes_times(ROW, lambda times: hours_by_forecast(ROW, times, forecast, thing))
            for forecast in odd_values() + [(((0, 0), 1),), [LAST], (LAST,) * 61, (((1,), 0),)]:
                self.raised(InvalidNumber, "forecast", hours_by_forecast, ROW, TIMES, forecast, thing)
        for thing in odd_values() + NO_INTEGERS + [5, -1, 10 ** 400]:
            for times in (TIMES, (0, 0, None, None, None)):
                self.refused("thing", hours_by_forecast, ROW, times, (LAST,), thing)


class NewsTest(Checks):
    def judge(self, table, times, forecast):
        told = helpful_news(table, times, forecast)
        if is_held_by(table, times, forecast):
            self.assertEqual(told, ())
        else:
            self.assertEqual(told, tuple(
                (call, thing) for call, (lot, _) in enumerate(forecast) for thing in lot
                if is_held_by(table, times, news_behind(forecast, call, thing))
            ))
        return told

    def test_one_by_one(self):
        chance = random.Random(607)
        many = 0
        for table in small_tables(500, 6, 10, -4, 2, seed=607):
            times = random_times(chance, table, 6, 3)
            for _ in range(2):
                many += bool(self.judge(table, times, random_forecast(chance, table, 5)))
        self.assertGreater(many, 50)

    def test_held_times(self):
        self.assertEqual(helpful_news(ROW, TIMES, (LAST, FIRST)), ())
        self.assertEqual(helpful_news(table=ROW, times=TIMES, forecast=()), ())

    def test_no_news_helps(self):
        self.assertEqual(self.judge(ROW, (0, 0, None, None, None), (FIRST, LAST)), ())
        self.assertEqual(self.judge(ROW, (0, 0, None, None, None), ()), ())
        self.assertEqual(self.judge(ROW, TIMES, (((1, 2, 3), 3), ((1, 2, 3), 3))), ())

    def test_a_call_that_is_given_twice(self):
        self.assertEqual(self.judge(ROW, TIMES, (FIRST, FIRST, LAST)), ((2, 1), (2, 3)))

    def test_things_that_have_come(self):
        for call in (((0, 2, 4), 1), ((2, 4), 1)):
            self.assertEqual(self.judge(ROW, TIMES, (call, LAST)), ((0, 2), (1, 1), (1, 3)))

    def test_sixty_calls(self):
        chance = random.Random(608)
        begun = time.perf_counter()
        for least, most, ties in ((-9, 1, 30), (-100, 2, 60), (-10 ** 6, 10 ** 4, 40)):
            table = great_table(chance, least, most, ties)
            times = random_times(chance, table, 10 ** 4, 4)
            helpful_news(table, times, plain_forecast(table, (1,) * 60))
            mixed = tuple((tuple(sorted(chance.sample(range(12), 3))), chance.choice((1, 2, 3))) for _ in range(60))
            helpful_news(table, times, mixed)
        row = Table(tuple(LETTERS), tuple((at, at + 1, 1) for at in range(11)))
        singles = tuple(((at % 10 + 1,), 1) for at in range(60))
        self.assertEqual(helpful_news(row, (0,) + (None,) * 10 + (10,), singles), ())
        self.assertLess(time.perf_counter() - begun, 60)

    def test_errors(self):
        for forecast in ((LAST,), None):
            self.takes_times(ROW, lambda times: helpful_news(ROW, times, forecast))
        for forecast in odd_values() + [(((0, 0), 1),), [LAST], (LAST,) * 61, (((1,), 0),)]:
            self.raised(InvalidNumber, "forecast", helpful_news, ROW, TIMES, forecast)
