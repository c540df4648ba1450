"""Point 34: what a clerk says."""

import random

from saidatonce.clerk import answers_to, batch_times
from saidatonce.held import is_held
from saidatonce.tables import Table
from tests.checks import NO_INTEGERS, Checks
from tests.odd import Sour, Yes, keeps, odd_values, small_tables
from tests.slow import (
    LETTERS, game_keeps, great_table, lots_of, missing_things, random_times, ring_of, slow_held, with_times,
)

ROW = Table(("a", "b", "c", "d", "e"), ((0, 1, 1), (1, 2, 1), (2, 3, 1), (3, 4, 1)))
HELD = (0, None, None, None, 4)
BATCHES = [(1,), (2,), (3,), (1, 1), (1, 2), (2, 1), (1, 1, 1), (12,), (100,) * 60]


def sums_of_weights(table):
    return sum(abs(tie[2]) for tie in table.ties)


class ClerkCase(Checks):
    def right(self, table, times, batches, lot, answer, judge=slow_held):
        """The answer gives each thing of the lot a time, not too far away, and what is said then is held."""
        self.assertIsInstance(answer, tuple)
        self.assertEqual(tuple(thing for thing, _ in answer), lot)
        self.assertTrue(all(type(pair) is tuple and type(pair[1]) is int for pair in answer))
        told = [time for time in times if time is not None] + [0]
        for _, time in answer:
            self.assertLessEqual(min(abs(time - other) for other in told), 200 * sums_of_weights(table))
        behind = with_times(times, lot, [time for _, time in answer])
        self.assertTrue(judge(table, behind, batches[1:]), (table.ties, times, batches, lot, answer))
        return behind


class TimesTest(ClerkCase):
    def judge(self, table, times, batches, lots):
        if not is_held(table, times, batches):
            for lot in lots:
                self.refused("held", batch_times, table, times, batches, lot)
            return
        for lot in lots:
            self.right(table, times, batches, lot, batch_times(table, times, batches, lot))

    def test_small_tables(self):
        chance = random.Random(341)
        for table in small_tables(250, 5, 8, -4, 2, seed=341):
            times = random_times(chance, table)
            for batches in BATCHES:
                self.judge(table, times, batches, lots_of(missing_things(times), batches[0]))

    def test_against_whole_games(self):
        chance = random.Random(342)
        for table in small_tables(60, 3, 5, -2, 2, seed=342):
            times = random_times(chance, table, 3, 3)
            for batches in BATCHES[:7]:
                if game_keeps(table, times, batches):
                    for lot in lots_of(missing_things(times), batches[0]):
                        answer = batch_times(table, times, batches, lot)
                        self.right(table, times, batches, lot, answer, game_keeps)

    def test_great_tables(self):
        chance = random.Random(343)
        for least, most in ((-10 ** 6, -1), (-3, 0), (-10 ** 6, 10), (-900, 10)):
            for share in (2, 4, 12):
                table = great_table(chance, least, most)
                times = random_times(chance, table, 3, share)
                for batches in BATCHES:
                    lot = tuple(missing_things(times)[:batches[0]])
                    self.judge(table, times, batches, [lot, (), lot[:1], lot[1:]])

    def test_rings_that_no_batch_reaches(self):
        # all things but one come together; the ring of all is too long to bar them
        for count in range(3, 13):
            table = Table(tuple(LETTERS[:count]), ring_of(count, 10 ** 6))
            for size in range(1, count):
                self.judge(table, (None,) * count, (size,), lots_of(range(count), size)[-3:])
                self.judge(table, (5,) + (None,) * (count - 1), (size,), [tuple(range(1, count))[:size]])

    def test_far_apart(self):
        table = Table(tuple("abcdef"), ((0, 1, 3), (2, 3, -5)))
        times = (-10 ** 9, None, 10 ** 9, None, None, None)
        for lot in lots_of((1, 3, 4, 5), 4):
            self.judge(table, times, (4,), [lot])
            self.judge(table, times, (4, 3), [lot])

    def test_an_empty_lot(self):
        self.assertEqual(batch_times(ROW, HELD, (1, 1), ()), ())
        self.assertEqual(batch_times(table=ROW, times=HELD, batches=(100,) * 60, things=()), ())

    def test_lots_as_great_as_the_first_batch(self):
        answer = batch_times(ROW, HELD, (3,), (1, 2, 3))
        self.assertEqual(answer, ((1, 1), (2, 2), (3, 3)))
        self.refused("things", batch_times, ROW, HELD, (2,), (1, 2, 3))
        self.refused("things", batch_times, ROW, HELD, (2, 3), (1, 2, 3))

    def test_times_within_bounds_if_there_are_any(self):
        table = Table(("a", "b"), ((0, 1, -10),))
        self.right(table, (None, 10 ** 9), (1,), (0,), batch_times(table, (None, 10 ** 9), (1,), (0,)))
        ((_, time),) = batch_times(table, (None, 10 ** 9), (1,), (0,))
        self.assertLessEqual(abs(time), 10 ** 9)
        table = Table(("a", "b"), ((0, 1, 10),))
        self.assertGreaterEqual(batch_times(table, (10 ** 9, None), (1,), (1,))[0][1], 10 ** 9 + 10)


class ErrorsTest(ClerkCase):
    def test_times_and_batches(self):
        for batches, things in ((None, None), ((), ()), ((1,), (1,))):
            self.takes_times(ROW, lambda times: batch_times(ROW, times, batches, things))
            self.takes_times(ROW, lambda times: answers_to(ROW, times, batches, (things,)))
        for things in (None, (1,)):
            self.takes_batches(lambda batches: batch_times(ROW, (0, 0, None, None, None), batches, things))
            self.takes_batches(lambda batches: answers_to(ROW, (0, 0, None, None, None), batches, (things,)))

    def test_no_batches_first(self):
        for things in odd_values() + [(), (1,), (9,)]:
            for times in (HELD, (0, 0, None, None, None)):
                self.refused("batches", batch_times, ROW, times, (), things)
                self.refused("batches", answers_to, ROW, times, (), (things, None))

    def test_things(self):
        wrong = [value for value in odd_values() if not (isinstance(value, tuple) and value == ())]
        wrong += [(0,), (4,), (1, 4), (5,), (-1,), (2, 1), (1, 1), [1], (True,), (1.0,), ("b",), 1, (1, 2, 3),
                  ((1,),), (None,), (Sour(),), (Yes(),)] + [(value,) for value in NO_INTEGERS]
        for value in wrong:
            for times in (HELD, (0, None, None, None, 0)):
                self.refused("things", batch_times, ROW, times, (2, 1), value)
                self.refused("things", answers_to, ROW, times, (2, 1), (value,))
                self.refused("things", answers_to, ROW, HELD, (2, 2), ((1,), value))

    def test_held_last(self):
        for lot in ((), (1,), (1, 2)):
            self.refused("held", batch_times, ROW, (0, None, None, None, 3), (2, 2), lot)
            self.refused("held", answers_to, ROW, (0, None, None, None, 3), (2, 2), (lot, None))


class AnswersTest(ClerkCase):
    def judge(self, table, times, batches, lots):
        told = answers_to(table, times, batches, lots)
        self.assertEqual(len(told), len(lots))
        for done, (lot, answer) in enumerate(zip(lots, told)):
            times = self.right(table, times, batches[done:], lot, answer)

    def test_the_example_of_the_document(self):
        self.assertEqual(answers_to(ROW, HELD, (1, 1), ((2,), (1,))), (((2, 2),), ((1, 1),)))

    def test_several_lots(self):
        chance = random.Random(344)
        for table in small_tables(200, 6, 8, -4, 1, seed=344):
            start = random_times(chance, table, 3, 4)
            for batches in BATCHES:
                if is_held(table, start, batches):
                    free, lots = missing_things(start), []
                    for size in batches:
                        lot = tuple(sorted(chance.sample(free, chance.randint(0, min(size, len(free))))))
                        free = [thing for thing in free if thing not in lot]
                        lots.append(lot)
                    for many in (len(lots), len(lots) // 2):
                        self.judge(table, start, batches, tuple(lots[:many]))

    def test_all_ties_are_kept_by_all(self):
        chance = random.Random(345)
        for table in small_tables(60, 6, 10, -9, 2, seed=345):
            nothing = (None,) * len(table.things)
            if is_held(table, nothing, (1,) * 12):
                things = list(range(len(table.things)))
                chance.shuffle(things)
                told = answers_to(table, nothing, (1,) * 12, tuple((thing,) for thing in things))
                times = nothing
                for answer in told:
                    times = with_times(times, [pair[0] for pair in answer], [pair[1] for pair in answer])
                    self.assertTrue(keeps(table, times))

    def test_without_lots(self):
        self.assertEqual(answers_to(table=ROW, times=HELD, batches=(1,), lots=()), ())
        self.assertEqual(answers_to(ROW, HELD, (), ()), ())
        # not held, which nobody asks for
        self.assertEqual(answers_to(ROW, (0, 0, None, None, None), (1,), ()), ())

    def test_the_first_wrong_lot(self):
        self.refused("batches", answers_to, ROW, HELD, (1,), ((), (), None))
        self.refused("things", answers_to, ROW, HELD, (1, 1), ((1, 2), (), ()))
        self.refused("things", answers_to, ROW, HELD, (1, 1), ((1,), (1,)))
        self.refused("things", answers_to, ROW, HELD, (2, 1), ((1, 2), (1, 2)))
        self.refused("batches", answers_to, ROW, HELD, (1, 1), ((1,), (2,), (3,)))

    def test_times_beyond(self):
        table = Table(("a", "b", "c"), ((0, 1, 10), (1, 2, 10)))
        times = (10 ** 9, None, None)
        self.assertEqual(answers_to(table, times, (1, 1), ((1,), (2,)))[0][0][0], 1)
        self.judge(table, times, (1, 1), ((1,), (2,)))
        self.judge(table, times, (1, 1), ((2,), (1,)))
