"""Points 58 (what is held by a forecast) and 59."""

import random
import time

from saidatonce.court import Barred
from saidatonce.errors import InvalidNumber
from saidatonce.forecasts import plain_forecast
from saidatonce.foretold import Lost, held_by, is_forecast_paper, is_held_by
from saidatonce.held import Held, Short, is_held
from saidatonce.tables import Table
from tests.checks import NO_INTEGERS, Checks
from tests.forecasting import forecast_keeps, random_forecast, slow_held_by
from tests.odd import Sour, Yes, odd_values, small_tables
from tests.slow import LETTERS, great_table, random_times, ring_of

ROW = Table(("a", "b", "c", "d", "e"), ((0, 1, 1), (1, 2, 1), (2, 3, 1), (3, 4, 1)))
TIMES, FIRST, LAST = (0, None, None, None, 3), ((2,), 1), ((1, 3), 1)
STEPS = ((2, 0), (2, 1), (2, 2), (2, 3), (1, (0, 1)), (1, (2, 3)), (0, (4, 5)))
RING = Table(("a", "b", "c"), ((0, 1, 1), (1, 2, 0), (2, 0, 0)))
NOTHING = (None,) * 3


class ForetoldCase(Checks):
    def judge(self, table, times, forecast):
        told = is_held_by(table, times, forecast)
        paper = held_by(table, times, forecast)
        self.assertIs(isinstance(paper, Held), told)
        self.assertIs(is_forecast_paper(table, times, forecast, paper), True)
        self.assertIs(is_forecast_paper(table, times, forecast, Held()), told)
        if not told:
            self.assertIsInstance(paper, Lost)
        return told


class HeldByTest(ForetoldCase):
    def test_the_examples_of_the_document(self):
        self.assertIs(is_held_by(ROW, TIMES, (FIRST, LAST)), False)
        self.assertIs(is_held_by(ROW, TIMES, (LAST, FIRST)), True)
        self.assertIs(is_forecast_paper(ROW, TIMES, (FIRST, LAST), Lost(STEPS)), True)

    def test_against_whole_games(self):
        chance = random.Random(581)
        told = []
        for table in small_tables(250, 3, 6, -2, 2, seed=581):
            times = random_times(chance, table, 3, 4)
            for _ in range(3):
                forecast = random_forecast(chance, table, 3)
                told.append(self.judge(table, times, forecast))
                self.assertIs(told[-1], forecast_keeps(table, times, forecast), (table.ties, times, forecast))
        self.assertGreater(told.count(True), 100)
        self.assertGreater(told.count(False), 100)

    def test_whole_games_in_wider_windows(self):
        chance = random.Random(582)
        for table in small_tables(60, 3, 6, -1, 2, seed=582):
            times = random_times(chance, table, 3, 3)
            forecast = random_forecast(chance, table, 3)
            self.assertIs(self.judge(table, times, forecast), forecast_keeps(table, times, forecast, 2))

    def test_whole_games_of_four_things(self):
        chance = random.Random(583)
        for table in small_tables(60, 4, 7, -1, 1, seed=583):
            times = random_times(chance, table, 2, 3)
            forecast = random_forecast(chance, table, 3, 2)
            self.assertIs(self.judge(table, times, forecast), forecast_keeps(table, times, forecast))

    def test_step_by_step(self):
        chance = random.Random(584)
        for table in small_tables(400, 7, 14, -4, 2, seed=584):
            times = random_times(chance, table)
            forecast = random_forecast(chance, table, 6, 100)
            self.assertIs(self.judge(table, times, forecast), slow_held_by(table, times, forecast))

    def test_plain_forecasts_are_their_batches(self):
        chance = random.Random(585)
        for table in small_tables(150, 6, 10, -4, 2, seed=585):
            times = random_times(chance, table)
            for batches in ((), (1,), (2,), (3,), (1, 1), (1, 2), (2, 1), (1, 1, 1), (100,) * 60):
                forecast = plain_forecast(table, batches)
                self.assertIs(is_held_by(table, times, forecast), is_held(table, times, batches))

    def test_things_in_no_lot(self):
        # the ring needs all three
        for lot in ((0, 1), (1, 2), (0, 2), (0,), ()):
            self.assertIs(self.judge(RING, NOTHING, ((lot, 3),) * 5), True)
        self.assertIs(self.judge(RING, NOTHING, (((0, 1, 2), 3),)), False)
        self.assertIs(self.judge(RING, NOTHING, (((0, 1, 2), 2),)), True)
        self.assertIs(self.judge(RING, (0, None, None), (((0, 1, 2), 2),)), False)
        self.assertIs(self.judge(RING, (0, None, None), (((1,), 2), ((0, 2), 2))), False)
        self.assertIs(self.judge(RING, (0, None, None), (((1,), 2), ((0, 1), 2))), True)

    def test_rings_of_one_call(self):
        for count in range(2, 13):
            table = Table(tuple(LETTERS[:count]), ring_of(count, 1))
            lot = tuple(range(count))
            for number in range(1, 14):
                told = self.judge(table, (None,) * count, ((lot, number),))
                self.assertIs(told, number < count)

    def test_a_ring_of_things_that_come_one_by_one(self):
        # a ring of 2 beats two calls of one of both things, not one of each
        table = Table(("a", "b"), ring_of(2, 1))
        nothing = (None, None)
        for forecast, told in (
            ((((0,), 1), ((1,), 1)), False), ((((0, 1), 1),), True), ((((0, 1), 1), ((0,), 1)), False),
            ((((0,), 1), ((0,), 1)), True), ((((0,), 2), ((), 1)), True), ((((), 1), ((0, 1), 2)), False),
        ):
            self.assertIs(self.judge(table, nothing, forecast), told)
            self.assertIs(forecast_keeps(table, nothing, forecast), told)

    def test_empty_calls(self):
        self.assertIs(self.judge(ROW, TIMES, ()), True)
        self.assertIs(self.judge(ROW, TIMES, (((), 100),) * 60), True)
        self.assertIs(self.judge(ROW, (0, 0, None, None, None), (((), 1),)), False)
        self.assertIs(self.judge(ROW, (0, 0, None, None, None), ()), False)

    def test_sixty_calls(self):
        chance = random.Random(586)
        begun = time.perf_counter()
        for least, most in ((-9, 1), (-10 ** 6, 10 ** 6), (-10 ** 6, -1), (-3, 0), (-100, 1)):
            for number in (1, 2, 100):
                table = great_table(chance, least, most)
                times = random_times(chance, table, 10 ** 4, 4)
                mixed = tuple((tuple(sorted(chance.sample(range(12), chance.randint(0, 4)))), number)
                              for _ in range(60))
                self.judge(table, times, mixed)
                self.judge(table, times, plain_forecast(table, (number,) * 60))
        row = Table(tuple(LETTERS), tuple((at, at + 1, 1) for at in range(11)))
        singles = tuple(((at % 10 + 1,), 1) for at in range(60))
        self.assertIs(self.judge(row, (0,) + (None,) * 10 + (10,), singles), False)
        self.assertIs(self.judge(row, (0,) + (None,) * 10 + (11,), singles), True)
        self.assertLess(time.perf_counter() - begun, 60)

    def test_the_room_that_comes_late(self):
        # things on the way come from the ends to the middle, or from the middle to the ends
        row = Table(tuple(LETTERS), tuple((at, at + 1, 1) for at in range(11)))
        for apart in (10, 11):
            times = (0,) + (None,) * 10 + (apart,)
            for order in ((1, 10, 2, 9, 3, 8, 4, 7, 5, 6), (5, 2, 8, 1, 3, 4, 6, 7, 9, 10)):
                forecast = tuple(((thing,), 1) for thing in order)
                self.assertIs(self.judge(row, times, forecast), slow_held_by(row, times, forecast))


class PlayTest(ForetoldCase):
    def play(self, chance, table, times, forecast, steps):
        """Plays steps from the last one on: what is between comes at its call, with any times, until a tie is broken."""
        times, last = list(times), len(steps) - 1
        while steps[last][0] < len(forecast):
            call, inner = steps[last]
            ends = [self.ends_of(table, forecast, steps, number) for number in inner]
            between = [one for one, _ in ends[1:]]
            if times[ends[0][0]] is None:
                between.append(ends[0][0])
            coming = {thing for thing in between if times[thing] is None}
            self.assertLessEqual(coming, set(forecast[call][0]))
            self.assertLessEqual(len(coming), forecast[call][1])
            for thing in coming:
                times[thing] = chance.randint(-5, 9)
            last = [
                number for number, (one, other) in zip(inner, ends)
                if self.weight_of(table, forecast, steps, number) > times[other] - times[one]
            ][0]
        x, y, weight = table.ties[steps[last][1]]
        self.assertLess(times[y] - times[x], weight)

    def ends_of(self, table, forecast, steps, number):
        call, inner = steps[number]
        if call == len(forecast):
            return table.ties[inner][:2]
        ends = [self.ends_of(table, forecast, steps, other) for other in inner]
        return ends[0][0], ends[-1][1]

    def weight_of(self, table, forecast, steps, number):
        call, inner = steps[number]
        if call == len(forecast):
            return table.ties[inner][2]
        return sum(self.weight_of(table, forecast, steps, other) for other in inner)

    def test_whatever_is_said_a_tie_is_broken(self):
        chance = random.Random(591)
        calls = []
        for table in small_tables(400, 6, 12, -4, 2, seed=591):
            times = random_times(chance, table, 6, 3)
            for _ in range(2):
                forecast = random_forecast(chance, table, 5)
                paper = held_by(table, times, forecast)
                if isinstance(paper, Lost):
                    calls.append(len(forecast) - paper.steps[-1][0])
                    for _ in range(5):
                        self.play(chance, table, times, forecast, paper.steps)
        self.assertGreater(len(calls), 200)
        self.assertGreater(max(calls), 3)

    def test_the_example(self):
        chance = random.Random(592)
        for _ in range(50):
            self.play(chance, ROW, TIMES, (FIRST, LAST), STEPS)


class LostTest(ForetoldCase):
    def right(self, steps, table=ROW, times=TIMES, forecast=(FIRST, LAST)):
        self.assertIs(is_forecast_paper(table, times, forecast, Lost(steps)), True, steps)

    def wrong(self, steps, table=ROW, times=TIMES, forecast=(FIRST, LAST)):
        self.assertIs(is_forecast_paper(table, times, forecast, Lost(steps)), False, steps)

    def test_by_names(self):
        self.assertIs(is_forecast_paper(table=ROW, times=TIMES, forecast=(FIRST, LAST), value=Lost(steps=STEPS)), True)
        self.assertIs(is_held_by(table=ROW, times=TIMES, forecast=()), True)
        self.assertIsInstance(held_by(table=ROW, times=TIMES, forecast=()), Held)

    def test_all_steps_count(self):
        self.right(STEPS)
        for many in range(len(STEPS)):
            self.wrong(STEPS[:many])
        # steps that are not needed do no harm, but the last one tells
        self.right(((2, 3),) + tuple((call, inner if call == 2 else tuple(at + 1 for at in inner))
                                     for call, inner in STEPS))
        self.wrong(STEPS + ((2, 0),))

    def test_ties(self):
        broken = (0, 0, None, None, None)
        for forecast in ((), (FIRST, LAST)):
            self.right(((len(forecast), 0),), times=broken, forecast=forecast)
            self.wrong(((len(forecast), 1),), times=broken, forecast=forecast)
            for number in [4, -1, 10 ** 400, (0,)] + NO_INTEGERS:
                self.wrong(((len(forecast), number),), times=broken, forecast=forecast)
        self.wrong(((0, 0),), times=broken)
        self.wrong(((1, 0),), times=broken)
        self.wrong(((3, 0),), times=broken)
        self.wrong(((2, 0),), times=(0, 1, None, None, None))
        self.right(((2, 0), (1, (0,))), times=broken)
        self.right(((2, 0), (1, (0,)), (0, (1,))), times=broken)

    def test_the_weight(self):
        for apart in range(6):
            told = self.right if apart < 4 else self.wrong
            told(STEPS, times=(7, None, None, None, 7 + apart))

    def test_its_ends_have_come(self):
        for times in ((None, None, None, None, 3), (0, None, None, None, None), (None,) * 5):
            self.wrong(STEPS, times=times)

    def test_calls(self):
        # each step is of a greater index than those that are made of it
        self.right(STEPS[:4] + ((1, (0, 1)),) + STEPS[5:])
        for call in [0, 2, 3, -1] + NO_INTEGERS:
            self.wrong(STEPS[:4] + ((call, (0, 1)),) + STEPS[5:])
        self.wrong(STEPS[:6] + ((1, (4, 5)),))
        self.wrong(STEPS[:6] + ((2, (4, 5)),))
        self.wrong(STEPS[:5] + ((0, (2, 3)), (0, (4, 5))))
        # also where both calls have all things between
        alike = (((1, 2, 3), 1), ((1, 2, 3), 1))
        self.right(STEPS, forecast=alike)
        self.wrong(STEPS[:6] + ((1, (4, 5)),), forecast=alike)
        self.wrong(STEPS[:5] + ((0, (2, 3)), (0, (4, 5))), forecast=alike)

    def test_indices(self):
        for inner in ((4, 6), (6, 5), (4, 7), (4, -2), (4,), (5,), (5, 4), (4, 4), (4, 5, 5), (), [4, 5], (4, True),
                      (4.0, 5), (4, None), ((4,), 5), 4, None, (Sour(), 5), (Yes(), 5), (4, "5"), tuple(range(1000))):
            self.wrong(STEPS[:6] + ((0, inner),))

    def test_each_begins_where_the_one_before_ends(self):
        self.wrong(STEPS[:4] + ((1, (1, 0)),) + STEPS[5:])
        self.wrong(STEPS[:4] + ((1, (0, 2)),) + STEPS[5:])
        self.right(((2, 0), (2, 1), (2, 2), (2, 3), (0, (0, 1, 2, 3))), forecast=(((1, 2, 3), 3), LAST))
        # what they lead over lacks one tie
        near = (0, None, None, None, 2)
        self.wrong(((2, 0), (2, 2), (2, 3), (0, (0, 1, 2))), times=near, forecast=(((1, 2, 3), 3), LAST))
        self.wrong(((2, 0), (2, 1), (2, 3), (0, (0, 1, 2))), times=near, forecast=(((1, 2, 3), 3), LAST))

    def test_things_between_are_in_the_lot(self):
        for first, told in ((((2,), 1), True), (((1, 2, 3), 1), True), (((1, 3), 1), False), (((), 1), False)):
            (self.right if told else self.wrong)(STEPS, forecast=(first, LAST))
        for last, told in ((((1, 3), 1), True), (((1,), 1), False), (((3,), 1), False), (((0, 2, 4), 1), False)):
            (self.right if told else self.wrong)(STEPS, forecast=(FIRST, last))

    def test_things_between_are_missing(self):
        self.right(((2, 0), (2, 1), (0, (0, 1))), times=(0, None, 1, None, None), forecast=(LAST, FIRST))
        self.wrong(((2, 0), (2, 1), (0, (0, 1))), times=(0, 1, 1, None, None), forecast=(LAST, FIRST))
        self.right(((2, 0), (2, 1), (2, 1)), times=(0, 1, 1, None, None), forecast=(LAST, FIRST))

    def test_how_many_are_between(self):
        steps = ((1, 0), (1, 1), (1, 2), (1, 3), (0, (0, 1, 2, 3)))
        for number, told in ((1, False), (2, False), (3, True), (4, True), (100, True)):
            (self.right if told else self.wrong)(steps, forecast=(((1, 2, 3), number),))

    def test_each_is_counted_as_often_as_it_stands(self):
        # from a to b, round the ring of b and c, and to d
        table = Table(tuple("abcd"), ((0, 1, 0), (1, 2, 1), (2, 1, 0), (1, 3, 0)))
        steps = ((1, 0), (1, 1), (1, 2), (1, 3))
        for number in range(1, 8):
            for rounds in range(1, 4):
                last = (0, (0,) + (1, 2) * rounds + (3,))
                told = self.right if number >= 1 + 2 * rounds else self.wrong
                told(steps + (last,), table, (0, None, None, 0), (((1, 2), number),))

    def test_rings(self):
        steps = ((1, 0), (1, 1), (1, 2), (0, (0, 1, 2)))
        for number, told in ((2, False), (3, True), (4, True)):
            (self.right if told else self.wrong)(steps, RING, NOTHING, (((0, 1, 2), number),))
        for lot in ((0, 1), (0, 2), (1, 2), ()):
            self.wrong(steps, RING, NOTHING, ((lot, 3),))
        # a ring begins with a thing of its call
        self.right(((1, 0), (1, 1), (1, 2), (0, (1, 2, 0))), RING, NOTHING, (((0, 1, 2), 3),))
        self.wrong(steps[:3] + ((0, (0, 1)),), RING, NOTHING, (((0, 1, 2), 3),))
        for weight, told in ((1, True), (0, False), (-1, False)):
            table = Table(RING.things, ring_of(3, weight))
            (self.right if told else self.wrong)(steps, table, NOTHING, (((0, 1, 2), 3),))

    def test_rings_through_what_has_come(self):
        # its ends have come, so nothing is asked of a call
        self.right(((1, 0), (1, 1), (1, 2), (0, (0, 1, 2))), RING, (0, None, None), (((1, 2), 2),))
        self.wrong(((1, 0), (1, 1), (1, 2), (0, (0, 1, 2))), RING, (0, None, None), (((1, 2), 1),))
        self.wrong(((1, 1), (1, 2), (1, 0), (0, (0, 1, 2))), RING, (0, None, None), (((1, 2), 3),))

    def test_rings_of_steps(self):
        # c between a and a at the last call, a itself at the one before
        forecast = (((0,), 1), ((1, 2), 2))
        steps = ((2, 0), (2, 1), (2, 2), (1, (0, 1, 2)), (0, (3,)))
        self.right(steps, RING, NOTHING, forecast)
        self.wrong(steps[:4], RING, NOTHING, forecast)
        self.wrong(steps, RING, NOTHING, (((1,), 1), ((1, 2), 2)))
        self.wrong(steps, RING, NOTHING, (((0,), 1), ((1, 2), 1)))
        self.wrong(steps[:3] + ((1, (0, 1, 2)), (0, (3, 3))), RING, NOTHING, forecast)
        self.right(steps[:3] + ((1, (0, 1, 2)), (0, (3, 3))), RING, NOTHING, (((0,), 2), ((1, 2), 2)))

    def test_a_tie_is_no_ring(self):
        self.wrong(((0, 0),), RING, NOTHING, ())
        self.wrong(((1, 0),), RING, NOTHING, (((0, 1, 2), 3),))

    def test_how_many_steps(self):
        broken = (0, 0, None, None, None)
        for many, told in ((1, True), (9999, True), (10000, True), (10001, False)):
            (self.right if told else self.wrong)(((0, 0),) * many, times=broken, forecast=())
        self.wrong((), times=broken, forecast=())

    def test_values_of_all_kinds(self):
        broken = (0, 0, None, None, None)
        for value in odd_values() + [Lost, Held, Short((0,)), Barred((0,)), STEPS, ((2, 0),)]:
            self.assertIs(is_forecast_paper(ROW, broken, (FIRST, LAST), value), False)
        for value in odd_values():
            self.wrong(value, times=broken)
            self.wrong((value,), times=broken)
            self.wrong(((2, 0), (value, (0,))), times=broken)
            self.wrong(((2, 0), (1, value)), times=broken)
            self.assertIs(Lost(value).steps, value)
        for step in ([2, 0], (2,), (2, 0, 0), (), 2, (0, 2), ("2", 0), (2, "0"), (True, 0), (2, False), (2.0, 0)):
            self.wrong((step,), times=broken)
        self.wrong([(2, 0)], times=broken)
        self.right(((2, 0),), times=broken)


class ErrorsTest(ForetoldCase):
    def calls(self):
        return (is_held_by, held_by, lambda table, times, forecast: is_forecast_paper(table, times, forecast, None))

    def test_times(self):
        for call in self.calls():
            for forecast in ((), (FIRST,), None):
                self.takes_times(ROW, lambda times: call(ROW, times, forecast))

    def test_forecasts(self):
        wrong = odd_values() + [(((0, 0), 1),), (((5,), 1),), (((0,), 0),), (((0,), 101),), ((0, 1),), [FIRST],
                                (FIRST,) * 61, (FIRST, ((0,), True)), (FIRST, [(0,), 1]), (FIRST, ((0,), 1, 1))]
        for call in self.calls():
            for value in wrong:
                for times in (TIMES, (0, 0, None, None, None)):
                    self.raised(InvalidNumber, "forecast", call, ROW, times, value)
