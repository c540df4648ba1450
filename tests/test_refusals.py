"""Points 61 to 63, and 65 without its papers: what to refuse, which ties to strike."""

import itertools
import random
import time

from saidatonce.errors import InvalidNumber
from saidatonce.held import is_held
from saidatonce.refusals import (
    cheapest_refusal, fewest_strikes, is_refusal, is_strike, lean_refusals, lean_strikes, least_price,
)
from saidatonce.tables import Table
from tests.checks import NO_INTEGERS, Checks
from tests.odd import Sour, Yes, keeps, odd_values, small_tables, walks_from, weight_of
from tests.slow import (
    LETTERS, first_reach, game_keeps, great_table, lots_of, missing_things, product_reach, random_times, ring_of,
    slow_held,
)

PAIRS = Table(("ale", "bun", "cod"), ((0, 1, 1), (1, 0, 0), (1, 2, 2), (2, 1, -1), (0, 2, 5), (2, 0, -4)))
NONE = (None,) * 3
ROW = Table(("a", "b", "c", "d", "e"), ((0, 1, 1), (1, 2, 1), (2, 3, 1), (3, 4, 1)))
SHORT = (0, None, None, None, 3)
BATCHES = [(), (1,), (2,), (3,), (1, 1), (2, 1), (1, 1, 1), (12,), (100,) * 60]
NO_PRICES = [(1,) * 4, (1,) * 6, [1] * 5, (1, 1, 1, 1, -1), (10 ** 6 + 1, 1, 1, 1, 1), (1, 1, None, 1, 1),
             (True, 1, 1, 1, 1), (1.0, 1, 1, 1, 1), ("1", 1, 1, 1, 1), 1, (Sour(), 1, 1, 1, 1), (1, 1, 1, 1, Yes())]


def all_lots(items):
    return [lot for size in range(len(items) + 1) for lot in itertools.combinations(items, size)]


def slow_refusals(table, times, batches):
    """All refusals, by the words of the document."""
    found = []
    for lot in all_lots(missing_things(times)):
        ties = tuple(tie for tie in table.ties if tie[0] not in lot and tie[1] not in lot)
        if slow_held(Table(table.things, ties), times, batches):
            found.append(lot)
    return found


def slow_strikes(table, times, batches):
    """All strikes, by the words of the document."""
    return [
        lot for lot in all_lots(range(len(table.ties)))
        if slow_held(Table(table.things, tuple(t for n, t in enumerate(table.ties) if n not in lot)), times, batches)
    ]


def lean_of(lots):
    """Those within which there is no other one."""
    return tuple(sorted(lot for lot in lots if not any(set(other) < set(lot) for other in lots)))


def price_of(prices, lot):
    return sum(prices[item] for item in lot)


class RefusalsTest(Checks):
    def judge(self, table, times, batches, chance, pricings=3):
        right = slow_refusals(table, times, batches)
        for lot in all_lots(missing_things(times)):
            self.assertIs(is_refusal(table, times, batches, lot), lot in right, (table.ties, times, batches, lot))
        self.assertEqual(lean_refusals(table, times, batches), lean_of(right))
        self.assertEqual(lean_refusals(table, times, batches) == ((),), is_held(table, times, batches))
        for _ in range(pricings):
            prices = tuple(chance.choice((0, 0, 1, 2, 3, 10, 10 ** 6)) for _ in table.things)
            if right:
                self.judge_prices(table, times, batches, prices, right)
            else:
                self.assertFalse(keeps(table, times))
                self.refused("broken", cheapest_refusal, table, times, batches, prices)
                self.refused("broken", least_price, table, times, batches, prices)

    def judge_prices(self, table, times, batches, prices, right):
        least = min(price_of(prices, lot) for lot in right)
        self.assertEqual(least_price(table, times, batches, prices), least)
        lot = cheapest_refusal(table, times, batches, prices)
        self.assertIn(lot, right)
        self.assertEqual(price_of(prices, lot), least)

    def test_the_examples_of_the_document(self):
        self.assertEqual(lean_refusals(PAIRS, NONE, (2,)), ((0, 1), (0, 2), (1, 2)))
        self.assertEqual(lean_refusals(PAIRS, (0, None, None), (1,)), ((1, 2),))
        self.assertEqual(cheapest_refusal(PAIRS, NONE, (2,), (5, 2, 4)), (1, 2))
        self.assertEqual(least_price(PAIRS, NONE, (2,), (5, 2, 4)), 6)

    def test_all_lots(self):
        chance = random.Random(611)
        for table in small_tables(120, 5, 9, -4, 3, seed=611):
            times = random_times(chance, table, 6, 3)
            for batches in BATCHES:
                self.judge(table, times, batches, chance)

    def test_more_things(self):
        chance = random.Random(612)
        for table in small_tables(12, 8, 20, -4, 3, seed=612):
            for times in ((None,) * len(table.things), random_times(chance, table, 6, 4)):
                for batches in ((2,), (1, 1, 1)):
                    self.judge(table, times, batches, chance)

    def test_against_whole_games(self):
        chance = random.Random(613)
        for table in small_tables(50, 3, 5, -2, 2, seed=613):
            times = random_times(chance, table, 3, 3)
            for batches in ((1,), (2,), (1, 1)):
                for lot in all_lots(missing_things(times)):
                    ties = tuple(tie for tie in table.ties if tie[0] not in lot and tie[1] not in lot)
                    told = game_keeps(Table(table.things, ties), times, batches)
                    self.assertIs(is_refusal(table, times, batches, lot), told)

    def test_each_bad_walk_passes_a_thing_of_a_refusal(self):
        chance = random.Random(614)
        for table in small_tables(50, 4, 5, -3, 2, seed=614):
            times = random_times(chance, table, 3, 3)
            for batches in ((1,), (2,), (1, 1)):
                walks = self.bad_walks(table, times, batches)
                for lot in all_lots(missing_things(times)):
                    told = all(any(thing in lot for thing in passed) for passed in walks)
                    self.assertIs(is_refusal(table, times, batches, lot), told)

    def bad_walks(self, table, times, batches):
        """The things that are passed by each walk of a right Short or Barred."""
        found = []
        for first in range(len(table.things)):
            for walk, last in walks_from(table, first, product_reach(batches)):
                passed = {thing for number in walk for thing in table.ties[number][:2]}
                weight = weight_of(table, walk)
                if walk and None not in (times[first], times[last]) and weight > times[last] - times[first]:
                    found.append(passed)
                elif walk and first == last and weight > 0 and len(walk) <= first_reach(batches):
                    if any(times[thing] is None for thing in passed):
                        found.append(passed)
        return found

    def test_each_lot_with_a_refusal_in_it(self):
        self.assertIs(is_refusal(ROW, SHORT, (3,), ()), False)
        for lot in all_lots((1, 2, 3)):
            self.assertIs(is_refusal(ROW, SHORT, (3,), lot), lot != ())
            self.assertIs(is_refusal(ROW, SHORT, (2,), lot), True)
        self.assertEqual(lean_refusals(ROW, SHORT, (3,)), ((1,), (2,), (3,)))

    def test_a_broken_tie(self):
        broken = (0, 0, None, None, None)
        for lot in all_lots((2, 3, 4)):
            self.assertIs(is_refusal(ROW, broken, (), lot), False)
        self.assertEqual(lean_refusals(ROW, broken, ()), ())
        self.assertEqual(lean_refusals(table=ROW, times=broken, batches=(3,)), ())
        for call in (cheapest_refusal, least_price):
            self.refused("broken", call, ROW, broken, (), (1,) * 5)

    def test_values_of_all_kinds(self):
        self.assertIs(is_refusal(table=ROW, times=SHORT, batches=(3,), value=(2,)), True)
        for value in odd_values() + [(0,), (4,), (2, 0), (0, 2), (5,), (-1,), (3, 2), (2, 2), [2], 2, (True, 2), (2.0,),
                                     ("c",), ((2,),), (None,), (Sour(),), (Yes(),), {2}, (10 ** 400,)]:
            self.assertIs(is_refusal(ROW, SHORT, (3,), value), False)

    def test_prices(self):
        for prices, told in (((0, 5, 3, 4, 0), (2,)), ((0, 1, 3, 4, 0), (1,)), ((0, 5, 3, 0, 0), (3,)),
                             ((10 ** 6, 10 ** 6, 10 ** 6, 999999, 10 ** 6), (3,))):
            self.assertEqual(cheapest_refusal(table=ROW, times=SHORT, batches=(3,), prices=prices), told)
            self.assertEqual(least_price(table=ROW, times=SHORT, batches=(3,), prices=prices), prices[told[0]])
        self.assertEqual(cheapest_refusal(ROW, SHORT, (2,), (5,) * 5), ())
        self.assertEqual(least_price(ROW, SHORT, (2,), (5,) * 5), 0)

    def test_with_further_batches_it_is_not_less(self):
        chance = random.Random(615)
        for table in small_tables(60, 5, 9, -4, 3, seed=615):
            times = random_times(chance, table, 6, 4)
            if keeps(table, times):
                prices = [chance.randint(0, 5) for _ in table.things]
                last = 0
                for batches in ((), (1,), (1, 1), (1, 1, 2)):
                    told = least_price(table, times, batches, tuple(prices))
                    self.assertGreaterEqual(told, last)
                    last = told
                prices[chance.randrange(len(prices))] += 1
                self.assertGreaterEqual(least_price(table, times, (1, 1, 2), tuple(prices)), last)

    def test_great_tables(self):
        chance = random.Random(616)
        begun = time.perf_counter()
        for least, most in ((-9, 1), (-2, 2), (-10 ** 6, 10 ** 6), (-3, 0)):
            for batches in ((2,), (1, 1, 1), (100,) * 60):
                table = great_table(chance, least, most)
                nothing = (None,) * 12
                lean = lean_refusals(table, nothing, batches)
                prices = tuple(chance.randint(0, 9) for _ in range(12))
                cheapest = min(price_of(prices, lot) for lot in lean)
                self.assertEqual(least_price(table, nothing, batches, prices), cheapest)
                for lot in lean[:5]:
                    self.assertIs(is_refusal(table, nothing, batches, lot), True)
                    for thing in lot:
                        less = tuple(other for other in lot if other != thing)
                        self.assertIs(is_refusal(table, nothing, batches, less), False)
        # six pairs, each of which bars: one of each is refused
        pairs = Table(tuple(LETTERS), tuple((x, y, 1) for at in range(0, 12, 2) for x, y in ((at, at + 1), (at + 1, at))))
        self.assertEqual(len(lean_refusals(pairs, (None,) * 12, (2,))), 64)
        self.assertEqual(least_price(pairs, (None,) * 12, (2,), (1,) * 12), 6)
        # all things bar each other: all but one are refused
        every = Table(tuple("abcdefgh"), tuple((x, y, 1) for x in range(8) for y in range(8) if x != y))
        self.assertEqual(lean_refusals(every, (None,) * 8, (2,)), tuple(itertools.combinations(range(8), 7)))
        self.assertLess(time.perf_counter() - begun, 120)


class StrikesTest(Checks):
    def judge(self, table, times, batches):
        right = slow_strikes(table, times, batches)
        for lot in all_lots(range(len(table.ties))):
            self.assertIs(is_strike(table, times, batches, lot), lot in right)
        self.assertEqual(fewest_strikes(table, times, batches), min(len(lot) for lot in right))
        self.assertEqual(lean_strikes(table, times, batches), lean_of(right))

    def test_the_example_of_the_document(self):
        self.assertEqual(lean_strikes(PAIRS, (0, None, None), (1,)), ((0, 4), (0, 5), (1, 4), (1, 5)))

    def test_all_lots(self):
        chance = random.Random(651)
        for table in small_tables(60, 5, 6, -4, 3, seed=651):
            for times in (random_times(chance, table, 6, 3), (None,) * len(table.things)):
                for batches in BATCHES:
                    self.judge(table, times, batches)

    def test_broken_ties(self):
        self.judge(ROW, (0, 0, 0, None, None), ())
        self.assertEqual(lean_strikes(ROW, (0, 0, 0, None, None), ()), ((0, 1),))
        self.assertEqual(fewest_strikes(table=ROW, times=(0, 0, 0, 0, 0), batches=(1,)), 4)
        self.assertEqual(lean_strikes(table=ROW, times=(None,) * 5, batches=(1,)), ((),))
        self.assertEqual(fewest_strikes(ROW, (None,) * 5, (1,)), 0)

    def test_values_of_all_kinds(self):
        self.assertIs(is_strike(table=ROW, times=SHORT, batches=(3,), value=(3,)), True)
        for value in odd_values() + [(4,), (-1,), (3, 2), (2, 2), [2], 2, (True, 2), (2.0,), ((2,),), (None,), (Sour(),),
                                     (Yes(),), {2}, (10 ** 400,), (0, 1, 2, 3, 4)]:
            self.assertIs(is_strike(ROW, SHORT, (3,), value), False)

    def test_more_than_12_ties(self):
        many = Table(tuple(LETTERS), ring_of(12, 1))
        self.assertEqual(fewest_strikes(many, (None,) * 12, (12,)), 1)
        self.assertEqual(lean_strikes(many, (None,) * 12, (12,)), tuple((tie,) for tie in range(12)))
        more = Table(tuple(LETTERS), ring_of(12, 1, (0, 2, -9)))
        for call in (fewest_strikes, lean_strikes):
            self.refused("size", call, more, (None,) * 12, (12,))
            self.refused("size", call, more, (None,) * 12, ())
        self.assertIs(is_strike(more, (None,) * 12, (12,), (0,)), True)
        self.assertIs(is_strike(more, (None,) * 12, (12,), (12,)), False)

    def test_12_ties(self):
        begun = time.perf_counter()
        chance = random.Random(652)
        for least, most in ((-2, 2), (-4, 3), (1, 3)):
            table = great_table(chance, least, most, 12)
            lean = lean_strikes(table, (None,) * 12, (12,))
            self.assertEqual(fewest_strikes(table, (None,) * 12, (12,)), min(len(lot) for lot in lean))
        twice = Table(tuple("abcd"), tuple((x, y, 1) for x in range(4) for y in range(4) if x != y))
        lean = lean_strikes(twice, (None,) * 4, (4,))
        self.assertEqual((len(lean), min(len(lot) for lot in lean)), (len(lean_of(lean)), 6))
        self.assertIn(tuple(n for n, tie in enumerate(twice.ties) if tie[0] > tie[1]), lean)
        self.assertLess(time.perf_counter() - begun, 60)


class ErrorsTest(Checks):
    def test_times_and_batches(self):
        broken = (0, 0, None, None, None)
        many = Table(tuple("ab"), ((0, 1, 1),) * 13)
        for call in (lambda *told: is_refusal(*told, None), lambda *told: cheapest_refusal(*told, None),
                     lambda *told: least_price(*told, None), lean_refusals, lambda *told: is_strike(*told, None),
                     fewest_strikes, lean_strikes):
            for batches in ((), None):
                self.takes_times(ROW, lambda times: call(ROW, times, batches))
                self.takes_times(many, lambda times: call(many, times, batches))
            for times in (SHORT, broken):
                self.takes_batches(lambda batches: call(ROW, times, batches))
            self.takes_batches(lambda batches: call(many, (None, None), batches))

    def test_prices(self):
        for prices in odd_values() + NO_PRICES + [(value, 1, 1, 1, 1) for value in NO_INTEGERS]:
            for call in (cheapest_refusal, least_price):
                for times in (SHORT, (0, 0, None, None, None)):
                    self.raised(InvalidNumber, "prices", call, ROW, times, (), prices)
        self.assertEqual(least_price(ROW, SHORT, (3,), (10 ** 6,) * 5), 10 ** 6)
        self.assertEqual(least_price(ROW, SHORT, (3,), (0,) * 5), 0)
        self.assertEqual(len(lots_of((1, 2), 2)), 4)
