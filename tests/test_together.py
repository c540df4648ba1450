"""Point 40: times of things that come together."""

import itertools
import random

from saidatonce.held import is_held
from saidatonce.ranges import hours_for
from saidatonce.tables import Table
from saidatonce.together import answer_with, gaps_together, hours_together, is_batch_answer
from tests.checks import NO_INTEGERS, Checks
from tests.odd import Sour, Yes, odd_values, small_tables
from tests.slow import great_table, lots_of, missing_things, random_times, ring_of, slow_held, with_times

ROW = Table(("a", "b", "c", "d", "e"), ((0, 1, 1), (1, 2, 1), (2, 3, 1), (3, 4, 1)))
TIMES = (0, None, None, None, 6)
BATCHES = [(), (1,), (2,), (1, 1), (2, 1), (1, 1, 1), (12,), (100,) * 60]


def closed_table(table, low, high):
    """The table with ties to and from its first thing, so that all times lie in a range around it."""
    ties = [tie for thing in range(1, len(table.things)) for tie in ((0, thing, low), (thing, 0, -high))]
    return Table(table.things, table.ties + tuple(ties))


class TogetherCase(Checks):
    def right_answers(self, table, times, batches, lot, low, high):
        """All right answers with times in a range."""
        return [
            told for told in itertools.product(range(low, high + 1), repeat=len(lot))
            if slow_held(table, with_times(times, lot, told), batches)
        ]

    def judge(self, table, times, batches, lot, answers):
        """Against all right answers there are."""
        hours = hours_together(table, times, batches, lot)
        gaps = gaps_together(table, times, batches, lot)
        if not answers:
            self.assertIsNone(hours)
            self.assertIsNone(gaps)
            for thing in lot:
                self.refused("hour", answer_with, table, times, batches, lot, thing, 0)
            return
        wanted = tuple((min(answer[at] for answer in answers), max(answer[at] for answer in answers))
                       for at in range(len(lot)))
        self.assertEqual(hours, wanted, (table.ties, times, batches, lot))
        wanted = tuple(tuple(min(answer[to] - answer[at] for answer in answers) for to in range(len(lot)))
                       for at in range(len(lot)))
        self.assertEqual(gaps, wanted)
        for thing, (least, greatest) in zip(lot, hours):
            for hour in range(least, greatest + 1):
                self.judge_answer(table, times, batches, lot, thing, hour)
            for hour in (least - 1, greatest + 1):
                self.refused("hour", answer_with, table, times, batches, lot, thing, hour)

    def judge_answer(self, table, times, batches, lot, thing, hour):
        told = answer_with(table, times, batches, lot, thing, hour)
        self.assertEqual(tuple(other for other, _ in told), lot)
        self.assertIn((thing, hour), told)
        self.assertIs(is_batch_answer(table, times, batches, lot, told), True)
        self.assertTrue(slow_held(table, with_times(times, lot, [time for _, time in told]), batches))


class HoursTest(TogetherCase):
    def test_the_examples_of_the_document(self):
        self.assertEqual(hours_together(ROW, TIMES, (), (1, 2, 3)), ((1, 3), (2, 4), (3, 5)))
        self.assertEqual(gaps_together(ROW, TIMES, (), (1, 2, 3)), ((0, 1, 2), (-3, 0, 1), (-4, -3, 0)))
        told = [is_batch_answer(ROW, TIMES, (), (1, 3), ((1, one), (3, 5))) for one in (1, 5, 0)]
        self.assertEqual(told, [True, True, False])

    def test_against_all_times_in_a_small_window(self):
        # ties to and from the first thing, which has come at 0, bound all times by the window
        chance = random.Random(401)
        many = 0
        for table in small_tables(120, 4, 6, -3, 2, seed=401):
            table = closed_table(table, -3, 3)
            times = (0,) + tuple(chance.choice((None, None, None, chance.randint(-2, 2))) for _ in table.things[1:])
            for batches in ((), (1,), (2,), (1, 1)):
                for lot in lots_of(missing_things(times), 3):
                    answers = self.right_answers(table, times, batches, lot, -3, 3)
                    many += len(answers) > 1
                    self.judge(table, times, batches, lot, answers)
        self.assertGreater(many, 200)

    def test_exactly_between_the_ends_with_the_gaps(self):
        chance = random.Random(402)
        for table in small_tables(120, 5, 7, -4, 2, seed=402):
            times = random_times(chance, table, 6, 3)
            for batches in BATCHES[:6]:
                for lot in lots_of(missing_things(times), 2):
                    hours = hours_together(table, times, batches, lot)
                    gaps = gaps_together(table, times, batches, lot)
                    for told in itertools.product(range(-9, 14, 1 if len(lot) < 2 else 3), repeat=len(lot)):
                        self.assertIs(
                            is_held(table, with_times(times, lot, told), batches), self.fits(hours, gaps, told)
                        )

    def fits(self, hours, gaps, told):
        if hours is None or gaps is None:
            self.assertEqual(hours, gaps)
            return False
        for at, (least, greatest) in enumerate(hours):
            if least is not None and told[at] < least or greatest is not None and told[at] > greatest:
                return False
            if any(gap is not None and told[to] - told[at] < gap for to, gap in enumerate(gaps[at])):
                return False
        return True

    def test_each_time_between_is_in_an_answer(self):
        chance = random.Random(403)
        for table in small_tables(150, 6, 9, -5, 2, seed=403):
            times = random_times(chance, table, 9, 3)
            for batches in BATCHES:
                for lot in lots_of(missing_things(times), 12)[-4:]:
                    hours = hours_together(table, times, batches, lot)
                    for thing, (least, greatest) in zip(lot, hours or ()):
                        low = -10 ** 9 if least is None else least
                        high = 10 ** 9 if greatest is None else greatest
                        for hour in {low, high, (low + high) // 2}:
                            told = answer_with(table, times, batches, lot, thing, hour)
                            self.assertIn((thing, hour), told)
                            behind = with_times(times, lot, [time for _, time in told])
                            self.assertTrue(slow_held(table, behind, batches))

    def test_great_tables(self):
        chance = random.Random(404)
        for least, most in ((-10 ** 6, -1), (-3, 0), (-100, 1)):
            for share in (2, 4, 12):
                table = great_table(chance, least, most, 25)
                times = random_times(chance, table, 10, share)
                for batches in ((), (1, 1), (100,) * 60):
                    lot = tuple(missing_things(times))
                    hours = hours_together(table, times, batches, lot)
                    if hours is None:
                        continue
                    for thing, ends in zip(lot, hours):
                        hour = ([end for end in ends if end is not None] + [0])[0]
                        told = answer_with(table, times, batches, lot, thing, hour)
                        self.assertTrue(is_held(table, with_times(times, lot, [pair[1] for pair in told]), batches))

    def test_open_ends(self):
        self.assertEqual(hours_together(ROW, (None,) * 5, (), (1, 3)), ((None, None), (None, None)))
        self.assertEqual(gaps_together(ROW, (None,) * 5, (), (1, 3)), ((0, None), (None, 0)))
        self.assertEqual(gaps_together(ROW, (None,) * 5, (1,), (1, 3)), ((0, 2), (None, 0)))
        self.assertEqual(hours_together(ROW, (0, None, None, None, None), (1,), (2, 3)), ((2, None), (3, None)))
        self.assertEqual(gaps_together(ROW, (0, None, None, None, None), (1,), (2, 3)), ((0, 1), (None, 0)))
        self.assertEqual(hours_together(table=ROW, times=(None,) * 5, batches=(), things=(0,)), ((None, None),))

    def test_one_thing_has_its_hours(self):
        chance = random.Random(405)
        for table in small_tables(100, 5, 8, -4, 2, seed=405):
            times = random_times(chance, table)
            for batches in BATCHES:
                for thing in missing_things(times):
                    told = hours_together(table, times, batches, (thing,))
                    hours = hours_for(table, times, batches, thing)
                    self.assertEqual(told, None if hours is None else (hours,))

    def test_an_empty_lot(self):
        self.assertEqual(hours_together(ROW, TIMES, (2,), ()), ())
        self.assertEqual(gaps_together(ROW, TIMES, (2,), ()), ())
        self.assertIs(is_batch_answer(ROW, TIMES, (2,), (), ()), True)
        short = (0, None, None, None, 3)
        self.assertIsNone(hours_together(ROW, short, (3,), ()))
        self.assertIsNone(gaps_together(table=ROW, times=short, batches=(3,), things=()))
        self.assertIs(is_batch_answer(ROW, short, (3,), (), ()), False)
        self.assertIs(is_batch_answer(ROW, short, (2,), (), ()), True)

    def test_without_a_right_answer(self):
        short, lot = (0, None, None, None, 3), (1, 2, 3)
        self.assertIsNone(hours_together(ROW, short, (), lot))
        self.assertIsNone(gaps_together(ROW, short, (), lot))
        for hour in (-10 ** 9, 0, 1, 2, 10 ** 9):
            self.refused("hour", answer_with, ROW, short, (), lot, 2, hour)
        ring = Table(tuple("abcd"), ring_of(3, 1))
        self.assertIsNone(hours_together(ring, (None,) * 4, (3,), (3,)))
        self.assertIsNone(hours_together(ring, (None,) * 4, (), (0, 1, 2)))
        self.assertEqual(hours_together(ring, (None,) * 4, (), (0, 1)), ((None, None), (None, None)))
        self.assertIsNone(hours_together(ring, (None,) * 4, (1,), (0, 1)))


class AnswerTest(TogetherCase):
    def right(self, value, lot=(1, 3), batches=()):
        self.assertIs(is_batch_answer(ROW, TIMES, batches, lot, value), True)

    def wrong(self, value, lot=(1, 3), batches=()):
        self.assertIs(is_batch_answer(ROW, TIMES, batches, lot, value), False)

    def test_right_ones(self):
        for one, other in itertools.product(range(-1, 8), repeat=2):
            told = ((1, one), (3, other))
            self.assertIs(is_batch_answer(ROW, TIMES, (), (1, 3), told), one >= 1 and other <= 5)
            self.assertIs(is_batch_answer(ROW, TIMES, (1,), (1, 3), told), one >= 1 and other <= 5 and one + 2 <= other)
        self.assertIs(is_batch_answer(table=ROW, times=TIMES, batches=(), things=(1,), value=((1, 1),)), True)

    def test_bounds(self):
        table, times = Table(("a", "b"), ()), (None, None)
        for time in (-10 ** 9, 10 ** 9):
            self.assertIs(is_batch_answer(table, times, (3,), (0, 1), ((0, time), (1, time))), True)
        for time in (-10 ** 9 - 1, 10 ** 9 + 1):
            self.assertIs(is_batch_answer(table, times, (3,), (0, 1), ((0, 0), (1, time))), False)
            self.assertIs(is_batch_answer(table, times, (3,), (0, 1), ((0, time), (1, 0))), False)

    def test_values_of_all_kinds(self):
        self.right(((1, 1), (3, 3)))
        for value in odd_values() + [
            [(1, 1), (3, 3)], ((3, 3), (1, 1)), ((1, 1),), ((1, 1), (3, 3), (3, 3)), ((1, 1), (2, 3)), ((1, 1), [3, 3]),
            ((1, 1), (3,)), ((1, 1), (3, 3, 3)), ((True, 1), (3, 3)), ((1.0, 1), (3, 3)), ((1, 1), (3, None)), (1, 3),
            ((1, 1), None), ((1, 1), Sour()), ((1, 1), Yes()), ((1, 1), (Yes(), 3)), ((1, 1), (Sour(), 3)), ((1, 1), ()),
            ((0, 0), (1, 1)), ((1, 1), (1, 1)),
        ]:
            self.wrong(value)
        for wrong in NO_INTEGERS:
            self.wrong(((1, 1), (3, wrong)))
            self.wrong(((1, wrong), (3, 3)))
            self.wrong(((wrong, 1), (3, 3)))

    def test_answers_in_which_a_thing_gets_an_hour(self):
        self.assertEqual(answer_with(table=ROW, times=TIMES, batches=(), things=(2,), thing=2, hour=7), ((2, 7),))
        for hour in (1, 2, 3):
            self.judge_answer(ROW, TIMES, (), (1, 2, 3), 1, hour)
        for hour in (0, 4):
            self.refused("hour", answer_with, ROW, TIMES, (), (1, 2, 3), 1, hour)


class ErrorsTest(TogetherCase):
    def calls(self):
        return (
            hours_together, gaps_together,
            lambda *told: is_batch_answer(*told, None),
            lambda *told: answer_with(*told, None, None),
        )

    def test_times_and_batches(self):
        for call in self.calls():
            for lot in ((1, 2), None, (0,)):
                for batches in ((), None):
                    self.takes_times(ROW, lambda times: call(ROW, times, batches, lot))
                self.takes_batches(lambda batches: call(ROW, (0, 0, None, None, None), batches, lot))

    def test_lots(self):
        for call in self.calls():
            for lot in odd_values() + [
                (0,), (4,), (1, 4), (2, 1), (1, 1), (5,), (-1,), [1], 1, (True,), (1.0,), ("b",), ((1,),), (None,),
                (Sour(),), (Yes(),), range(1, 2), (10 ** 400,), (1, 2, 3, 4),
            ]:
                self.refused("things", call, ROW, TIMES, (), lot)

    def test_a_thing_of_the_lot(self):
        for thing in odd_values() + NO_INTEGERS + [0, 2, 4, 5, -1, 10 ** 400]:
            for hour in (1, None):
                for times in (TIMES, (0, None, None, None, 0)):
                    self.refused("thing", answer_with, ROW, times, (), (1, 3), thing, hour)
        self.refused("thing", answer_with, ROW, TIMES, (), (), 1, 1)

    def test_hours(self):
        nothing = (None,) * 5
        for hour in odd_values() + NO_INTEGERS + [10 ** 9 + 1, -10 ** 9 - 1, 10 ** 400]:
            self.refused("hour", answer_with, ROW, nothing, (), (1, 3), 1, hour)
        for hour in (-10 ** 9, 10 ** 9):
            self.assertEqual(answer_with(ROW, nothing, (), (1, 3), 1, hour)[0], (1, hour))
