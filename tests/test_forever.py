"""Point 55: what can be kept for ever."""

import itertools
import random

from saidatonce.court import Barred, Safe
from saidatonce.forever import Ever, can_for_ever, for_ever, is_ever_paper
from saidatonce.held import Held, Short, is_held
from saidatonce.plans import plan_by
from saidatonce.tables import Table
from tests.checks import NO_INTEGERS, Checks
from tests.odd import Sour, Yes, keeps, odd_values, small_tables
from tests.slow import LETTERS, great_table, random_times, ring_of, slow_walks, window

TABLE = Table(("a", "b", "c", "d"), ((0, 1, 1), (1, 2, 1), (2, 3, 1), (0, 2, 1), (3, 0, -9)))
RING = Table(("a", "b", "c", "d"), ((0, 1, 1), (1, 2, 1), (2, 3, 1), (3, 0, -2)))


def plans_in(table, times, wider=0):
    """All plans in the window, or a wider one."""
    low, high = window(table, times)
    free = [thing for thing, time in enumerate(times) if time is None]
    for told in itertools.product(range(low - wider, high + wider + 1), repeat=len(free)):
        plan = list(times)
        for thing, time in zip(free, told):
            plan[thing] = time
        if keeps(table, plan):
            yield tuple(plan)


class CanTest(Checks):
    def judge(self, table, times):
        told = can_for_ever(table, times)
        paper = for_ever(table, times)
        self.assertIs(isinstance(paper, Ever), told)
        self.assertIs(is_ever_paper(table, times, paper), True)
        self.assertIs(told, is_held(table, times, (100,) * 60))
        self.assertIs(told, is_held(table, times, (12,)))
        self.assertIs(told, is_held(table, times, (1,) * 12))
        self.assertIs(told, plan_by(table, times, (0,) * len(table.things)) is not None)
        if not told:
            self.assertIsInstance(paper, (Short, Barred))
            self.assertTrue(1 <= len(paper.walk) <= len(table.things))
        return told

    def test_the_example_of_the_document(self):
        self.assertEqual(for_ever(TABLE, (0, None, 1, None)).walk, (0, 1))
        self.assertEqual(for_ever(TABLE, (0, None, None, 2)).walk, (0, 1, 2))

    def test_against_plans_in_a_wide_window(self):
        chance = random.Random(551)
        for table in small_tables(150, 4, 6, -2, 2, seed=551):
            times = random_times(chance, table, 3, 3)
            plans = list(itertools.islice(plans_in(table, times, 2), 1))
            self.assertIs(self.judge(table, times), bool(plans))

    def test_small_tables(self):
        chance = random.Random(552)
        for table in small_tables(300, 7, 12, -4, 2, seed=552):
            self.judge(table, random_times(chance, table))
            self.judge(table, (None,) * len(table.things))

    def test_great_tables(self):
        chance = random.Random(553)
        for least, most in ((-9, 1), (-10 ** 6, 10 ** 6), (-10 ** 6, -1), (-3, 0), (-90, 1)):
            for share in (1, 2, 5):
                table = great_table(chance, least, most)
                self.judge(table, random_times(chance, table, 10 ** 6, share))
                self.judge(table, (-10 ** 9,) + (None,) * 10 + (10 ** 9,))

    def test_rings(self):
        for count in range(2, 13):
            for weight in (-1, 0, 1):
                table = Table(tuple(LETTERS[:count]), ring_of(count, weight))
                for times in ((None,) * count, (0,) + (None,) * (count - 1), (0,) * count):
                    told = self.judge(table, times)
                    self.assertIs(told, weight < 1)

    def test_all_come(self):
        self.assertIs(can_for_ever(table=TABLE, times=(0, 1, 2, 3)), True)
        self.assertIs(can_for_ever(TABLE, (0, 1, 2, 2)), False)
        self.assertEqual(for_ever(table=TABLE, times=(0, 1, 2, 3)).plan, (0, 1, 2, 3))
        self.assertEqual(for_ever(TABLE, (0, 1, 2, 2)).walk, (2,))

    def test_plans_beyond(self):
        times = (10 ** 9, None, None, None)
        plan = for_ever(TABLE, times).plan
        self.assertGreater(plan[3], 10 ** 9)
        self.assertIs(is_ever_paper(TABLE, times, Ever(plan)), True)


class EverTest(Checks):
    def right(self, times, plan):
        self.assertIs(is_ever_paper(TABLE, times, Ever(plan)), True)

    def wrong(self, times, plan):
        self.assertIs(is_ever_paper(TABLE, times, Ever(plan)), False)

    def test_a_plan(self):
        self.right((0, None, None, None), (0, 1, 2, 3))
        self.right((0, None, None, None), (0, 1, 2, 9))
        self.right((None,) * 4, (-10 ** 20, 1 - 10 ** 20, 2 - 10 ** 20, 3 - 10 ** 20))
        self.assertIs(is_ever_paper(table=TABLE, times=(0, 1, 2, 3), value=Ever((0, 1, 2, 3))), True)

    def test_times_said_are_as_they_are(self):
        self.wrong((0, None, None, None), (1, 2, 3, 4))
        self.wrong((0, 1, 2, 4), (0, 1, 2, 3))

    def test_ties_are_kept(self):
        for plan in ((0, 0, 2, 3), (0, 1, 1, 3), (0, 1, 2, 2), (0, 1, 2, 10)):
            self.wrong((0, None, None, None), plan)

    def test_all_things_have_integers(self):
        self.wrong((0, None, None, None), (0, 1, 2))
        self.wrong((0, None, None, None), (0, 1, 2, 3, 4))
        self.wrong((0, None, None, None), [0, 1, 2, 3])
        for wrong in NO_INTEGERS:
            self.wrong((0, None, None, None), (0, 1, 2, wrong))
            self.wrong((None, None, None, None), (wrong, 1, 2, 3))
        for value in odd_values():
            self.wrong((0, None, None, None), value)


class WalkTest(Checks):
    def judge(self, told, paper, table=TABLE, times=(0, None, 1, None)):
        self.assertIs(is_ever_paper(table, times, paper), told)

    def test_short(self):
        self.judge(True, Short((0, 1)))
        self.judge(False, Short((0,)))
        self.judge(False, Short(()))
        self.judge(False, Short((3,)))
        self.judge(False, Short((1, 0)))
        for apart, told in ((0, True), (1, True), (2, False), (3, False)):
            self.judge(told, Short((0, 1)), times=(5, None, 5 + apart, None))
            self.judge(told, Short((0, 1)), times=(5, 9, 5 + apart, None))
        for times in ((0, None, None, None), (None, None, 0, None), (None,) * 4, (None, 0, None, 0)):
            self.judge(False, Short((0, 1)), times=times)

    def test_short_that_is_closed(self):
        self.judge(True, Short((0, 1, 2, 3)), RING, (0, None, None, None))
        self.judge(True, Short((1, 2, 3, 0)), RING, (None, 0, None, None))
        self.judge(False, Short((0, 1, 2, 3)), RING, (None, 0, 0, 0))
        self.judge(False, Short((0, 1, 2, 3)), Table(RING.things, ring_of(4, 0)), (0, None, None, None))

    def test_barred(self):
        # whatever has come
        for times in ((None,) * 4, (0, None, None, None), (0, 0, 0, 0)):
            self.judge(True, Barred((0, 1, 2, 3)), RING, times)
            self.judge(True, Barred((2, 3, 0, 1)), RING, times)
            self.judge(False, Barred((0, 1, 2)), RING, times)
            self.judge(False, Barred(()), RING, times)
            self.judge(False, Barred((0, 1, 2, 3)), Table(RING.things, ring_of(4, 0)), times)
            self.judge(False, Barred((0, 1)), TABLE, times)

    def test_long_walks(self):
        table = Table(("a", "b"), ring_of(2, 1))
        for paper in (Short, Barred):
            self.judge(True, paper((0, 1) * 250), table, (0, None))
            self.judge(False, paper((0, 1) * 251), table, (0, None))

    def test_against_all_walks(self):
        chance = random.Random(554)
        for table in small_tables(60, 3, 4, -2, 2, seed=554):
            times = random_times(chance, table, 2)
            ever = can_for_ever(table, times)
            for walk, one, other, weight in slow_walks(table, 5):
                short = None not in (times[one], times[other]) and weight > times[other] - times[one]
                self.judge(short, Short(walk), table, times)
                barred = one == other and weight > 0
                self.judge(barred, Barred(walk), table, times)
                # never both
                self.assertFalse(ever and (short or barred))

    def test_values_of_all_kinds(self):
        wrong = odd_values() + [Held(), Safe(), Ever, Short, Barred, (0, 1), ((0, 1),)]
        for value in wrong:
            for times in ((0, None, 1, None), (0, 1, 2, 3)):
                self.judge(False, value, TABLE, times)
        for walk in odd_values() + [(0, 2), (9,), (-1,), [0], (True,), (0.0,), ((0,),), (Sour(),), (Yes(),)]:
            self.judge(False, Short(walk), times=(0, 0, 0, 0))
            self.judge(False, Barred(walk), RING)

    def test_they_keep_any_values(self):
        for value in odd_values():
            self.assertIs(Ever(value).plan, value)
        self.assertEqual(Ever(plan=7).plan, 7)
