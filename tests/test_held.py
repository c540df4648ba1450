"""Points 31 and 32: held times, and papers of them."""

import itertools
import random
import unittest

from saidatonce.court import Barred
from saidatonce.errors import InvalidNumber, InvalidTimes
from saidatonce.held import Held, Short, held, is_held, is_held_paper
from saidatonce.tables import Table
from tests.odd import Sour, Yes, odd_values, small_tables
from tests.slow import (
    LETTERS, first_reach, game_keeps, great_table, product_reach, random_times, ring_of, slow_held, slow_walks,
)

RING = Table(("a", "b", "c", "d"), ((0, 1, 1), (1, 2, 1), (2, 3, 1), (3, 0, -2)))
CHAIN = Table(tuple("abcdef"), tuple((at, at + 1, 1) for at in range(5)))
NONE = (None,) * 4
BATCHES = [(), (1,), (2,), (3,), (1, 1), (1, 2), (2, 1), (1, 1, 1), (4,), (100,) * 60]
NO_BATCHES = [[1], (0,), (101,), (True,), (1,) * 61, 1, (1, 0), (1.0,), (Sour(),), (Yes(),)]


class HeldCase(unittest.TestCase):
    def judge(self, table, times, batches):
        told = slow_held(table, times, batches)
        self.assertIs(is_held(table, times, batches), told, (table.ties, times, batches))
        paper = held(table, times, batches)
        self.assertIs(isinstance(paper, Held), told)
        self.assertIs(is_held_paper(table, times, batches, paper), True)
        self.assertIs(is_held_paper(table, times, batches, Held()), told)
        if not told:
            self.assertIsInstance(paper, (Short, Barred))
            self.assertTrue(1 <= len(paper.walk) <= 2 * len(table.things))
        return paper


class GamesTest(HeldCase):
    def test_the_example_of_the_document(self):
        self.assertEqual(held(RING, (0, None, 1, None), (1,)).walk, (0, 1))
        self.assertIs(is_held(RING, (0, None, 1, None), ()), True)

    def test_against_whole_games(self):
        chance = random.Random(31)
        for table in small_tables(100, 3, 5, -2, 2, seed=31):
            times = random_times(chance, table, 3)
            for batches in BATCHES[:8]:
                told = self.judge(table, times, batches)
                self.assertIs(isinstance(told, Held), game_keeps(table, times, batches))

    def test_whole_games_of_four_things(self):
        chance = random.Random(32)
        for table in small_tables(40, 4, 6, -1, 1, seed=32):
            times = random_times(chance, table, 2)
            for batches in BATCHES[:7]:
                self.assertIs(is_held(table, times, batches), game_keeps(table, times, batches))

    def test_rings_near_0(self):
        for count in (2, 3, 4):
            for weight in (-1, 0, 1):
                table = Table(tuple("abcd"[:count]), ring_of(count, weight))
                nothing = (None,) * count
                for times in (nothing, (0,) + nothing[1:], nothing[:-1] + (5,), (0,) + nothing[2:] + (0,)):
                    for batches in BATCHES[:9]:
                        told = self.judge(table, times, batches)
                        self.assertIs(isinstance(told, Held), game_keeps(table, times, batches))

    def test_small_tables(self):
        chance = random.Random(33)
        for table in small_tables(200, 6, 10, -4, 2, seed=33):
            times = random_times(chance, table)
            for batches in BATCHES:
                self.judge(table=table, times=times, batches=batches)

    def test_great_tables(self):
        chance = random.Random(34)
        for least, most in ((-9, 1), (-10 ** 6, 10 ** 6), (-10 ** 6, -1), (-3, 0)):
            for share in (1, 2, 5):
                table = great_table(chance, least, most)
                times = random_times(chance, table, 10 ** 6, share)
                for batches in BATCHES + [(11,), (12,), (1, 11), (1,) * 60]:
                    self.judge(table, times, batches)

    def test_one_by_one_2_to_the_power_of_k_ties(self):
        # all of 5 ties: for two orders 4 ties are looked at, for three 8
        times = (0, None, None, None, None, 4)
        for orders, told in ((0, True), (1, True), (2, True), (3, False), (60, False)):
            self.assertIs(is_held(CHAIN, times, (1,) * orders), told)
        self.assertIs(is_held(CHAIN, (0, None, None, None, None, 5), (100,) * 60), True)
        for size, told in ((3, True), (4, False), (5, False)):
            self.assertIs(is_held(CHAIN, times, (size,)), told)

    def test_walks_longer_than_there_are_things(self):
        for exit_at in (1, 6, 11):
            ties = [(0, 1, 0)] + [(at, at + 1, 0) for at in range(1, 11)] + [(11, 1, 1), (exit_at, 0, 0)]
            table, times = Table(tuple(LETTERS), tuple(ties)), (0,) + (None,) * 11
            # R is 10 or less but for (11,) and (1, 10), N is 11 to 22
            for batches in ((10,), (11,), (2, 6), (1, 1, 4), (1, 9), (1, 10)):
                self.judge(table, times, batches)
        self.assertEqual(len(held(table, times, (1, 10)).walk), 11)


class ShortTest(HeldCase):
    def right(self, table, times, batches, walk):
        self.assertIs(is_held_paper(table, times, batches, Short(walk)), True)

    def wrong(self, table, times, batches, walk):
        self.assertIs(is_held_paper(table, times, batches, Short(walk)), False)

    def test_the_number_of_ties(self):
        # N is 5 for (4,) and 4 for (3,) and (1, 1)
        times = (0, None, None, None, None, 4)
        for batches in BATCHES:
            told = is_held_paper(CHAIN, times, batches, Short((0, 1, 2, 3, 4)))
            self.assertIs(told, product_reach(batches) >= 5)
        self.right(CHAIN, times, (4,), (0, 1, 2, 3, 4))
        self.wrong(CHAIN, times, (3,), (0, 1, 2, 3, 4))
        self.assertIs(is_held_paper(table=CHAIN, times=times, batches=(4,), value=Short((0, 1, 2, 3, 4))), True)

    def test_the_weight(self):
        for apart, told in ((-1, True), (1, True), (2, False), (3, False)):
            self.assertIs(is_held_paper(CHAIN, (7, None, 7 + apart, None, None, None), (1,), Short((0, 1))), told)

    def test_its_ends_have_come(self):
        self.right(CHAIN, (0, None, 0, None, None, None), (1,), (0, 1))
        self.wrong(CHAIN, (0, None, None, None, None, None), (1,), (0, 1))
        self.wrong(CHAIN, (None, None, 0, None, None, None), (1,), (0, 1))
        self.wrong(CHAIN, (None, 0, None, None, None, None), (1,), (0, 1))
        self.wrong(CHAIN, (None,) * 6, (1,), (0, 1))

    def test_things_between_may_have_come(self):
        self.right(CHAIN, (0, 5, 0, None, None, None), (1,), (0, 1))

    def test_closed_walks(self):
        # from a thing that has come to itself
        for walk in ((0, 1, 2, 3), (2, 3, 0, 1)):
            self.right(RING, (0, None, None, None) if walk[0] == 0 else (None, None, 5, None), (3,), walk)
            self.wrong(RING, (None, 9, None, None), (3,), walk)
        even = Table(tuple("abc"), ring_of(3, 0))
        self.wrong(even, (0, None, None), (9,), (0, 1, 2))

    def test_without_ties(self):
        self.wrong(RING, (0, 0, 0, 0), (9,), ())
        self.wrong(RING, NONE, (9,), ())

    def test_long_walks(self):
        table = Table(("a", "b"), ring_of(2, 1))
        self.right(table, (0, None), (100, 100), (0, 1) * 250)
        self.wrong(table, (0, None), (100, 100), (0, 1) * 251)

    def test_no_walks(self):
        for walk in odd_values() + [(0, 2), (0, 9), (-1,), [0], (True,), (0.0,), ("0",), ((0,),), (Sour(),), (Yes(),)]:
            self.wrong(RING, (0, 0, 0, 0), (9,), walk)
        self.right(RING, (0, 0, 0, 0), (9,), (0,))

    def test_against_all_walks(self):
        chance = random.Random(35)
        for table in small_tables(40, 3, 4, -2, 2, seed=35):
            times = random_times(chance, table, 2)
            for batches in ((), (1,), (2,), (1, 1)):
                for walk, one, other, weight in slow_walks(table, 5):
                    short = len(walk) <= product_reach(batches) and None not in (times[one], times[other])
                    short = short and weight > times[other] - times[one]
                    self.assertIs(is_held_paper(table, times, batches, Short(walk)), short)
                    barred = one == other and len(walk) <= first_reach(batches) and weight > 0 and any(
                        times[table.ties[number][0]] is None for number in walk
                    )
                    self.assertIs(is_held_paper(table, times, batches, Barred(walk)), barred)
                    # never is a paper that they are held right beside one of the others
                    if short or barred:
                        self.assertIs(is_held_paper(table, times, batches, Held()), False)


class BarredTest(HeldCase):
    def right(self, table, times, batches, walk):
        self.assertIs(is_held_paper(table, times, batches, Barred(walk)), True)

    def wrong(self, table, times, batches, walk):
        self.assertIs(is_held_paper(table, times, batches, Barred(walk)), False)

    def test_the_number_of_ties(self):
        for batches in BATCHES:
            told = is_held_paper(RING, NONE, batches, Barred((0, 1, 2, 3)))
            self.assertIs(told, first_reach(batches) >= 4)
        self.right(RING, NONE, (4,), (0, 1, 2, 3))
        self.wrong(RING, NONE, (3,), (0, 1, 2, 3))
        self.wrong(RING, NONE, (1, 2), (0, 1, 2, 3))

    def test_it_passes_a_missing_thing(self):
        for times in itertools.product((None, 0), repeat=4):
            told = is_held_paper(RING, times, (4,), Barred((0, 1, 2, 3)))
            self.assertIs(told, None in times)

    def test_it_is_closed_and_above_0(self):
        self.wrong(RING, NONE, (4,), (0, 1, 2))
        self.wrong(RING, NONE, (4,), ())
        for weight, told in ((1, True), (0, False), (-1, False)):
            table = Table(tuple("abc"), ring_of(3, weight))
            self.assertIs(is_held_paper(table, (None,) * 3, (3,), Barred((0, 1, 2))), told)

    def test_no_walks(self):
        for walk in odd_values() + [(0, 2), (0, 1, 2, 9), [0, 1, 2, 3], (0, 1, 2, 3.0), (Sour(),), (Yes(),)]:
            self.wrong(RING, NONE, (9,), walk)


class PaperTest(HeldCase):
    def test_values_of_all_kinds(self):
        for value in odd_values() + [Held, Short, Barred, (0, 1, 2, 3), ((0, 1),)]:
            for times in (NONE, (0, None, 1, None), (0, 0, 0, 0)):
                self.assertIs(is_held_paper(RING, times, (4,), value), False)
                self.assertIs(is_held_paper(RING, times, (), value), False)

    def test_they_keep_any_values(self):
        for value in odd_values():
            self.assertIs(Short(value).walk, value)
        self.assertEqual(Short(walk=5).walk, 5)

    def test_it_raises_none_for_what_is_somewhat_beyond(self):
        for batches in ((101,), (1,) * 61):
            self.assertIs(is_held_paper(RING, NONE, batches, Barred((0, 1, 2, 3))), True)
            self.assertIs(is_held_paper(RING, NONE, batches, Held()), False)
        self.assertIs(is_held_paper(RING, (0, 10 ** 10, None, None), (), Held()), True)
        self.assertIs(is_held_paper(RING, (0, -10 ** 10, None, None), (), Short((0,))), True)


class RaisedTest(unittest.TestCase):
    def test_times(self):
        for value in odd_values() + [[0] * 4, (0,) * 3, (0,) * 5]:
            for call in (held, is_held):
                for batches in ((), None):
                    with self.assertRaises(InvalidTimes) as caught:
                        call(RING, value, batches)
                    self.assertEqual(caught.exception.at, -1)
        for wrong in (True, 1.0, "1", (1,), 10 ** 9 + 1, -10 ** 9 - 1, Sour(), Yes()):
            for call in (held, is_held):
                with self.assertRaises(InvalidTimes) as caught:
                    call(RING, (0, None, wrong, False), (0,))
                self.assertEqual(caught.exception.at, 2)
        self.assertIs(is_held(RING, (-10 ** 9, 10 ** 9, None, None), ()), True)

    def test_batches(self):
        for value in odd_values() + NO_BATCHES:
            for call in (held, is_held):
                with self.assertRaises(InvalidNumber) as caught:
                    call(RING, (0, 0, 0, 0), value)
                self.assertEqual(caught.exception.word, "batches")


if __name__ == "__main__":
    unittest.main()
