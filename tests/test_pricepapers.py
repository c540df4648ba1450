"""Points 64 and 65: papers that no refusal is cheaper, and no strike has fewer ties."""

import random
import time

from saidatonce.errors import InvalidNumber
from saidatonce.pricepapers import PricePaper, is_refusal_paper, is_strike_paper, refusal_paper, strike_paper
from saidatonce.refusals import fewest_strikes, least_price
from saidatonce.tables import Table
from tests.checks import NO_INTEGERS, Checks
from tests.odd import Sour, Yes, keeps, odd_values, small_tables
from tests.slow import LETTERS, great_table, random_times, ring_of
from tests.test_refusals import NO_PRICES, price_of, slow_refusals, slow_strikes

PAIRS = Table(("ale", "bun", "cod"), ((0, 1, 1), (1, 0, 0), (1, 2, 2), (2, 1, -1), (0, 2, 5), (2, 0, -4)))
NONE, ONES = (None,) * 3, (1, 1, 1)
ROWS = (((), (0, 1)), ((0,), (2, 3)), ((1,), (4, 5)))
ROW = Table(("a", "b", "c", "d", "e"), ((0, 1, 1), (1, 2, 1), (2, 3, 1), (3, 4, 1)))
SHORT = (0, None, None, None, 3)
BATCHES = [(), (1,), (2,), (3,), (1, 1), (2, 1), (1, 1, 1), (12,), (100,) * 60]
STRIKE_ROWS = (((), (0,)), ((0,), (1,)), ((0, 1), (2,)))
BROKEN = (0, 0, 0, 0, None)


class RefusalPaperTest(Checks):
    def right(self, price, rows, prices=ONES, table=PAIRS, times=NONE, batches=(2,)):
        self.assertIs(is_refusal_paper(table, times, batches, prices, PricePaper(price, rows)), True)

    def wrong(self, price, rows, prices=ONES, table=PAIRS, times=NONE, batches=(2,)):
        self.assertIs(is_refusal_paper(table, times, batches, prices, PricePaper(price, rows)), False)

    def test_the_example_of_the_document(self):
        self.assertIs(is_refusal_paper(PAIRS, NONE, (2,), ONES, PricePaper(2, ROWS)), True)
        self.assertIs(
            is_refusal_paper(table=PAIRS, times=NONE, batches=(2,), prices=ONES, value=PricePaper(price=2, rows=ROWS)),
            True,
        )

    def test_what_is_returned(self):
        chance = random.Random(641)
        for table in small_tables(150, 5, 9, -4, 3, seed=641):
            times = random_times(chance, table, 6, 3)
            for batches in BATCHES:
                prices = tuple(chance.choice((0, 0, 1, 2, 3, 10, 10 ** 6)) for _ in table.things)
                if not keeps(table, times):
                    self.refused("broken", refusal_paper, table, times, batches, prices)
                    continue
                paper = refusal_paper(table, times, batches, prices)
                self.assertIsInstance(paper, PricePaper)
                self.assertEqual(paper.price, least_price(table, times, batches, prices))
                self.assertIs(is_refusal_paper(table, times, batches, prices, paper), True)
                self.assertIs(is_refusal_paper(table, times, batches, prices, PricePaper(0, ())), True)
                # no paper tells a price above that of a refusal
                dearer = PricePaper(paper.price + 1, paper.rows)
                self.assertIs(is_refusal_paper(table, times, batches, prices, dearer), False)

    def test_great_tables(self):
        chance = random.Random(642)
        begun = time.perf_counter()
        for least, most in ((-9, 1), (-2, 2), (-10 ** 6, 10 ** 6), (-3, 0), (1, 2)):
            for share in (3, 100):
                table = great_table(chance, least, most)
                times = random_times(chance, table, 10, share)
                prices = tuple(chance.choice((0, 1, 9, 10 ** 6)) for _ in range(12))
                for batches in ((2,), (1, 1, 1), (100,) * 60):
                    if keeps(table, times):
                        paper = refusal_paper(table, times, batches, prices)
                        self.assertIs(is_refusal_paper(table, times, batches, prices, paper), True)
        self.assertLess(time.perf_counter() - begun, 60)

    def test_no_refusal_is_cheaper(self):
        # rows that are taken at random are right only if no refusal is cheaper
        chance = random.Random(643)
        judged = []
        for table in small_tables(80, 4, 7, -3, 2, seed=643):
            times = random_times(chance, table, 4, 4)
            prices = tuple(chance.randint(0, 3) for _ in table.things)
            if keeps(table, times):
                paper = refusal_paper(table, times, (2,), prices)
                least = min(price_of(prices, lot) for lot in slow_refusals(table, times, (2,)))
                for _ in range(10):
                    rows = tuple(row for row in paper.rows if chance.random() < 0.9)
                    price = chance.randint(0, 9)
                    told = is_refusal_paper(table, times, (2,), prices, PricePaper(price, rows))
                    judged.append(told)
                    self.assertTrue(price <= least or not told)
        self.assertGreater(judged.count(True), 50)

    def test_the_price(self):
        for price, told in ((0, True), (1, True), (2, True), (3, False), (10 ** 400, False), (-1, False)):
            (self.right if told else self.wrong)(price, ROWS)
        for price in NO_INTEGERS:
            self.wrong(price, ROWS)
        for prices, price, told in (((0, 1, 1), 1, True), ((0, 1, 1), 2, False), ((1, 1, 2), 2, True), ((2, 2, 2), 4, True),
                                    ((2, 1, 4), 3, True), ((2, 1, 4), 4, False), ((2, 2, 2), 5, False),
                                    ((10 ** 6,) * 3, 2 * 10 ** 6, True)):
            (self.right if told else self.wrong)(price, ROWS, prices)

    def test_rows_without_those_that_are_dear_enough(self):
        self.right(1, ROWS[:1])
        self.wrong(2, ROWS[:1])
        self.wrong(2, ROWS[:2])
        self.wrong(2, (ROWS[0], ROWS[2]))
        self.right(2, ROWS[:1] + ROWS[1:2], (1, 2, 1))

    def test_the_empty_lot(self):
        self.right(0, ())
        self.wrong(1, ())
        self.wrong(1, ROWS[1:])
        self.right(0, ROWS[1:2], (1, 1, 1))
        self.right(0, ROWS)
        # held times have no row
        self.right(0, (), table=ROW, times=SHORT, batches=(2,), prices=(1,) * 5)
        self.wrong(1, (((), (0, 1, 2, 3)),), table=ROW, times=SHORT, batches=(2,), prices=(1,) * 5)
        self.right(1, (((), (0, 1, 2, 3)),), table=ROW, times=SHORT, batches=(3,), prices=(1,) * 5)

    def test_lots_ascend(self):
        self.wrong(2, (ROWS[0], ROWS[2], ROWS[1]))
        self.wrong(2, (ROWS[1], ROWS[0], ROWS[2]))
        self.wrong(2, ROWS + ROWS[2:])
        self.wrong(2, (ROWS[0],) + ROWS)
        self.wrong(1, (ROWS[0], ((), (2, 3))))

    def test_lots_are_of_missing_things(self):
        for lot in odd_values() + [(3,), (-1,), [1], (True,), (1.0,), ((1,),), 1, (None,), (Sour(),), (Yes(),),
                                   (10 ** 400,)]:
            self.wrong(2, ROWS[:2] + ((lot, (4, 5)),))
        # a row that is not needed does no harm
        times = (None, None, None, None)
        more = Table(PAIRS.things + ("dab",), PAIRS.ties)
        self.right(2, ROWS + (((1, 3), (4, 5)),), (1,) * 4, more, times)
        self.wrong(2, ROWS + (((1, 3), (4, 5)),), (1,) * 4, more, (None, None, None, 0))
        self.wrong(2, ROWS + (((3, 1), (4, 5)),), (1,) * 4, more, times)
        # more things than ties
        few = Table(tuple("abcdef"), ((4, 5, 1), (5, 4, 0)))
        self.right(1, (((), (0, 1)), ((2, 3), (0, 1))), (1,) * 6, few, (None,) * 6)

    def test_walks_show_that_times_are_not_held(self):
        self.wrong(1, (((), ()),))
        self.wrong(1, (((), (0,)),))
        self.wrong(1, (((), (0, 2)),))
        self.wrong(1, (((), (1, 1)),))
        self.right(1, (((), (1, 0)),))
        self.wrong(1, (((), (0, 1)),), batches=(1,))
        self.wrong(1, (((), (0, 1, 0, 1)),))
        self.right(1, (((), (0, 1, 0, 1)),), batches=(4,))
        for walk in odd_values() + [[0, 1], (0, 6), (-1,), (0, True), (0.0, 1), ((0,), 1), (Sour(), 1), (Yes(), 1)]:
            self.wrong(1, (((), walk),))
        # a Short, and a Barred through what has come alone, which is none
        self.right(1, (((), (0, 1)),), times=(0, None, None), batches=(1,))
        self.right(1, (((), (0,)),), times=(0, 0, None), batches=(1,))
        self.wrong(1, (((), (0,)),), times=(0, 1, None), batches=(1,))

    def test_walks_pass_nothing_of_their_lot(self):
        self.wrong(2, (ROWS[0], ((0,), (0, 1)), ROWS[2]))
        self.wrong(2, (ROWS[0], ((0,), (4, 5)), ROWS[2]))
        self.wrong(2, (ROWS[0], ROWS[1], ((1,), (2, 3))))
        self.right(2, (((), (2, 3)), ((1,), (4, 5)), ((2,), (0, 1))))

    def test_what_has_come_is_not_refused(self):
        # the walk from ale round bun passes one missing thing alone
        times = (0, None, None)
        self.right(2, (((), (0, 1)), ((1,), (4, 5))), times=times, batches=(1,))
        self.wrong(2, (((), (0, 1)),), times=times, batches=(1,))
        self.right(1, (((), (0, 1)),), times=times, batches=(1,))
        self.wrong(3, (((), (0, 1)), ((1,), (4, 5))), times=times, batches=(1,))

    def test_a_broken_tie(self):
        # there is no refusal, so any price is right
        broken = (0, 0, None, None, None)
        self.refused("broken", refusal_paper, ROW, broken, (), (1,) * 5)
        self.right(10 ** 400, (((), (0,)),), (1,) * 5, ROW, broken, ())

    def test_values_of_all_kinds(self):
        for value in odd_values() + [PricePaper, (2, ROWS), ROWS]:
            self.assertIs(is_refusal_paper(PAIRS, NONE, (2,), ONES, value), False)
        for value in odd_values():
            self.wrong(value, ROWS)
            self.wrong(2, value)
            self.wrong(0, value)
            self.wrong(0, (value,))
            self.wrong(2, (ROWS[0], value, ROWS[2]))
            paper = PricePaper(value, value)
            self.assertIs(paper.price, value)
            self.assertIs(paper.rows, value)
        for row in ([(), (0, 1)], ((),), ((), (0, 1), 1), (), 1, "01"):
            self.wrong(1, (row,))
        self.wrong(2, list(ROWS))


class StrikePaperTest(Checks):
    def right(self, price, rows, table=ROW, times=BROKEN, batches=()):
        self.assertIs(is_strike_paper(table, times, batches, PricePaper(price, rows)), True)

    def wrong(self, price, rows, table=ROW, times=BROKEN, batches=()):
        self.assertIs(is_strike_paper(table, times, batches, PricePaper(price, rows)), False)

    def test_what_is_returned(self):
        chance = random.Random(653)
        for table in small_tables(120, 5, 8, -4, 3, seed=653):
            for times in (random_times(chance, table, 6, 3), (None,) * len(table.things)):
                for batches in BATCHES:
                    paper = strike_paper(table, times, batches)
                    self.assertIsInstance(paper, PricePaper)
                    self.assertEqual(paper.price, fewest_strikes(table, times, batches))
                    self.assertIs(is_strike_paper(table, times, batches, paper), True)
                    self.assertIs(is_strike_paper(table, times, batches, PricePaper(0, ())), True)
                    dearer = PricePaper(paper.price + 1, paper.rows)
                    self.assertIs(is_strike_paper(table, times, batches, dearer), False)

    def test_no_strike_has_fewer(self):
        chance = random.Random(654)
        for table in small_tables(60, 4, 6, -3, 2, seed=654):
            times = random_times(chance, table, 4, 4)
            paper = strike_paper(table, times, (2,))
            least = min(len(lot) for lot in slow_strikes(table, times, (2,)))
            for price in range(6):
                rows = tuple(row for row in paper.rows if chance.random() < 0.9)
                told = is_strike_paper(table, times, (2,), PricePaper(price, rows))
                self.assertTrue(price <= least or not told)

    def test_each_clause(self):
        self.right(3, STRIKE_ROWS)
        self.assertIs(is_strike_paper(table=ROW, times=BROKEN, batches=(), value=PricePaper(3, STRIKE_ROWS)), True)
        self.wrong(4, STRIKE_ROWS)
        self.right(2, STRIKE_ROWS[:2])
        self.right(1, STRIKE_ROWS[:1])
        self.wrong(3, STRIKE_ROWS[:2])
        self.wrong(3, STRIKE_ROWS[1:])
        self.wrong(3, STRIKE_ROWS[::-1])
        self.wrong(3, STRIKE_ROWS + STRIKE_ROWS[2:])
        self.right(0, ())
        self.wrong(1, ())
        # walks that have a tie of the lot, or are kept
        self.wrong(3, STRIKE_ROWS[:2] + (((0, 1), (1,)),))
        self.wrong(3, STRIKE_ROWS[:2] + (((0, 1), (3,)),))
        # all ties of a walk, not the things that it passes
        self.right(2, (((), (0, 1, 2)), ((0,), (1,)), ((1,), (0,)), ((2,), (0,))), batches=(2,))
        self.wrong(2, (((), (0, 1, 2)), ((0,), (1,)), ((1,), (0,))), batches=(2,))
        self.wrong(2, (((), (0, 1, 2)), ((0,), (1,)), ((1,), (0,)), ((2,), (0,))), batches=(1,))

    def test_lots_are_of_ties(self):
        for lot in odd_values() + [(4,), (-1,), [1], (True,), (1.0,), ((1,),), 1, (None,), (Sour(),), (Yes(),), (2, 0)]:
            self.wrong(3, STRIKE_ROWS + ((lot, (1,)),))
        # things that have come do not matter
        self.right(3, STRIKE_ROWS + (((0, 3), (1,)),))

    def test_rings(self):
        table, nothing = Table(("a", "b", "c"), ring_of(3, 1)), (None,) * 3
        self.right(1, (((), (0, 1, 2)),), table, nothing, (3,))
        self.wrong(1, (((), (0, 1, 2)),), table, nothing, (2,))
        self.wrong(2, (((), (0, 1, 2)),), table, nothing, (3,))

    def test_values_of_all_kinds(self):
        for value in odd_values() + [PricePaper, (3, STRIKE_ROWS)]:
            self.assertIs(is_strike_paper(ROW, BROKEN, (), value), False)
            self.wrong(value, STRIKE_ROWS)
            self.wrong(3, value)
            self.wrong(0, (value,))
            self.wrong(3, (STRIKE_ROWS[0], value))
            self.wrong(1, (((), value),))
        for price in NO_INTEGERS:
            self.wrong(price, STRIKE_ROWS)

    def test_more_than_12_ties(self):
        more = Table(tuple(LETTERS), ring_of(12, 1, (0, 2, -9)))
        self.refused("size", strike_paper, more, (None,) * 12, (12,))
        self.refused("size", strike_paper, more, (None,) * 12, ())
        self.right(1, (((), tuple(range(12))),), more, (None,) * 12, (12,))
        ring = Table(tuple(LETTERS), ring_of(12, 1))
        self.assertEqual(strike_paper(ring, (None,) * 12, (12,)).price, 1)

    def test_12_ties(self):
        begun = time.perf_counter()
        table = Table(tuple("abcd"), tuple((x, y, 1) for x in range(4) for y in range(4) if x != y))
        paper = strike_paper(table=table, times=(None,) * 4, batches=(4,))
        self.assertEqual(paper.price, 6)
        self.right(6, paper.rows, table, (None,) * 4, (4,))
        self.assertLess(time.perf_counter() - begun, 30)


class ErrorsTest(Checks):
    def test_times_batches_and_prices(self):
        broken = (0, 0, None, None, None)
        many = Table(tuple("ab"), ((0, 1, 1),) * 13)
        for call in (lambda *told: refusal_paper(*told, None), strike_paper):
            for batches in ((), None):
                self.takes_times(ROW, lambda times: call(ROW, times, batches))
                self.takes_times(many, lambda times: call(many, times, batches))
            for times in (SHORT, broken):
                self.takes_batches(lambda batches: call(ROW, times, batches))
            self.takes_batches(lambda batches: call(many, (None, None), batches))
        for prices in odd_values() + NO_PRICES:
            for times in (SHORT, broken):
                self.raised(InvalidNumber, "prices", refusal_paper, ROW, times, (), prices)
        paper = refusal_paper(table=ROW, times=SHORT, batches=(3,), prices=(10 ** 6,) * 5)
        self.assertEqual(paper.price, 10 ** 6)
