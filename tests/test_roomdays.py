"""Point 49: hard things, and days between two ends."""

import itertools
import random
import unittest

from saidatonce.errors import InvalidNumber, Refused
from saidatonce.room import is_room, room_for
from saidatonce.roomdays import hard_things, room_day
from saidatonce.rooms import table_with_rooms
from saidatonce.tables import Table
from tests.odd import Sour, Yes, odd_values, small_tables
from tests.slow import LETTERS, game_keeps, ring_of, slow_held, slow_rows
from tests.test_room import NO_ROOMS, TABLE, ends_said
from tests.test_rooms import all_ends

CHAIN = Table(tuple("abcde"), tuple((at, at + 1, 1) for at in range(4)))


def ones(orders):
    return (1,) * orders


class HardTest(unittest.TestCase):
    def refused(self, word, *rest):
        with self.assertRaises(Refused) as caught:
            hard_things(*rest)
        self.assertEqual(caught.exception.word, word)

    def slow_hard(self, table, first, last, orders):
        rows = slow_rows(table, min(2 ** (orders - 1), 24))
        least = room_for(table, first, last, ones(orders))[0]
        return tuple(
            thing for thing in range(len(table.things)) if thing not in (first, last)
            and None not in (rows[first][thing], rows[thing][last])
            and rows[first][thing] + rows[thing][last] == least
        )

    def test_the_example_of_the_document(self):
        self.assertEqual((hard_things(TABLE, 0, 3, 2), room_day(TABLE, 0, 3, 4, (2, 1))), ((1, 2), (0, 1, 2, 4)))

    def test_a_chain(self):
        self.refused("open", CHAIN, 0, 4, 1)
        self.assertEqual(hard_things(CHAIN, 0, 4, 2), (2,))
        self.assertEqual(hard_things(CHAIN, 0, 4, 3), (1, 2, 3))
        self.assertEqual(hard_things(table=CHAIN, first=0, last=2, orders=1), (1,))
        self.assertEqual(hard_things(CHAIN, 0, 1, 1), ())
        self.assertEqual(hard_things(CHAIN, 0, 4, 60), (1, 2, 3))

    def test_no_hard_ones(self):
        self.assertEqual(hard_things(TABLE, 0, 3, 1), ())
        self.assertEqual(hard_things(TABLE, 3, 0, 1), ())
        self.assertEqual(hard_things(Table(("a", "b"), ((0, 1, 5),)), 0, 1, 60), ())

    def test_against_the_words(self):
        for table in small_tables(120, 6, 10, -4, 2, seed=49):
            for first, last in all_ends(table)[:4]:
                for orders in (1, 2, 3, 4, 5, 60):
                    try:
                        least = room_for(table, first, last, ones(orders))[0]
                    except Refused:
                        self.refused("barred", table, first, last, orders)
                        continue
                    if least is None:
                        self.refused("open", table, first, last, orders)
                        continue
                    hard = hard_things(table, first, last, orders)
                    self.assertEqual(hard, self.slow_hard(table, first, last, orders))
                    if room_for(table, first, last, ones(orders - 1))[0] != least:
                        self.assertNotEqual(hard, ())
                    self.one_time_only(table, first, last, orders, least, hard)

    def one_time_only(self, table, first, last, orders, least, hard):
        """In the least room a hard thing that comes first gets exactly one time; which, is as far as it must be."""
        rows = slow_rows(table, min(2 ** (orders - 1), 24))
        for thing in hard:
            times = list(ends_said(table, first, last, least))
            told = []
            for time in range(rows[first][thing] - 2, rows[first][thing] + 3):
                times[thing] = time
                if slow_held(table, tuple(times), ones(orders - 1)):
                    told.append(time)
            self.assertEqual(told, [rows[first][thing]])

    def test_orders(self):
        for value in odd_values() + [0, -1, 61, 10 ** 400, 2.0, "2", (2,), Sour(), Yes()]:
            with self.assertRaises(InvalidNumber) as caught:
                hard_things(CHAIN, 0, 4, value)
            self.assertEqual(caught.exception.word, "orders")
        hard_things(CHAIN, 0, 1, 1)
        hard_things(CHAIN, 0, 1, 60)

    def test_the_order_of_the_errors(self):
        ring = Table(tuple("abcd"), ring_of(2, 1))
        cases = ((0, 0, 0, "ends"), (4, 0, None, "ends"), (0, 1, 0, "orders"), (2, 3, 61, "orders"))
        for first, last, orders, word in cases:
            with self.assertRaises(InvalidNumber) as caught:
                hard_things(ring, first, last, orders)
            self.assertEqual(caught.exception.word, word)
        # barred for two orders, and open for one
        self.refused("open", ring, 2, 3, 1)
        self.refused("barred", ring, 2, 3, 2)
        self.refused("barred", ring, 0, 1, 1)


class DayTest(unittest.TestCase):
    def judge(self, table, first, last, room, things):
        times = room_day(table, first, last, room, things)
        self.assertIsInstance(times, tuple)
        self.assertEqual((times[first], times[last]), (0, room))
        here = [first, last]
        for done in range(len(things) + 1):
            behind = tuple(time if thing in here else None for thing, time in enumerate(times))
            self.assertTrue(slow_held(table, behind, ones(len(things) - done)))
            here += things[done:done + 1]
        self.assertEqual([time is None for time in times], [thing not in here for thing in range(len(times))])
        return times

    def test_a_chain(self):
        self.assertEqual(room_day(CHAIN, 0, 4, 4, (2, 1, 3)), (0, 1, 2, 3, 4))
        for things in itertools.permutations((1, 2, 3)):
            self.assertEqual(self.judge(CHAIN, 0, 4, 4, things), (0, 1, 2, 3, 4))
        self.assertEqual(room_day(CHAIN, 0, 4, 3, (2,)), (0, None, room_day(CHAIN, 0, 4, 3, (2,))[2], None, 3))
        self.assertEqual(room_day(table=CHAIN, first=0, last=4, room=-5, things=()), (0, None, None, None, -5))

    def test_things_in_any_sequence(self):
        chance = random.Random(50)
        done = 0
        for table in small_tables(150, 6, 10, -4, 2, seed=50):
            for first, last in all_ends(table)[:3]:
                inner = [thing for thing in range(len(table.things)) if thing not in (first, last)]
                for many in range(len(inner) + 1):
                    things = tuple(chance.sample(inner, many))
                    for room in (-6, -1, 0, 1, 3, 7):
                        if is_room(table, first, last, ones(many), room):
                            self.judge(table, first, last, room, things)
                            done += 1
                        else:
                            with self.assertRaises(Refused) as caught:
                                room_day(table, first, last, room, things)
                            self.assertEqual(caught.exception.word, "room")
        self.assertGreater(done, 500)

    def test_times_do_not_depend_on_the_things_behind(self):
        for table in small_tables(60, 5, 8, -4, 1, seed=51):
            for many in (2, 3):
                for room in (0, 2, 9):
                    if len(table.things) == 5 and is_room(table, 0, 4, ones(many), room):
                        self.same_ahead(table, room, list(itertools.permutations((1, 2, 3), many)))

    def same_ahead(self, table, room, rows):
        """Rows of things that begin with the same ones have the same times for these."""
        days = {things: room_day(table, 0, 4, room, things) for things in rows}
        for one, other in itertools.product(rows, repeat=2):
            for at, thing in enumerate(one):
                if one[:at + 1] == other[:at + 1]:
                    self.assertEqual(days[one][thing], days[other][thing])

    def test_12_things(self):
        # 10 orders need the room of any number known together
        table = table_with_rooms(tuple(range(11)))
        for things in (tuple(range(2, 12)), tuple(range(11, 1, -1)), (6, 2, 11, 7, 3, 10, 4, 9, 5, 8)):
            self.judge(table, 0, 1, 10, things)
            with self.assertRaises(Refused):
                room_day(table, 0, 1, 9, things)
        self.judge(table, 0, 1, 10 ** 9, (5,))
        alone = Table(tuple(LETTERS), ())
        self.judge(alone, 3, 5, -10 ** 400, (0, 11, 7))

    def test_whole_games(self):
        for table in small_tables(60, 4, 6, -1, 1, seed=52):
            if len(table.things) == 4:
                for room in (-1, 0, 1, 2):
                    try:
                        times = room_day(table, 0, 1, room, (3, 2))
                    except Refused:
                        self.assertFalse(game_keeps(table, (0, room, None, None), ones(2)))
                        continue
                    self.assertTrue(game_keeps(table, (0, room, None, times[3]), ones(1)))
                    self.assertTrue(game_keeps(table, times, ()))

    def test_errors(self):
        for value in odd_values() + [5, -1, 4, Sour()]:
            with self.assertRaises(InvalidNumber) as caught:
                room_day(CHAIN, value, 4, None, (1,))
            self.assertEqual(caught.exception.word, "ends")
            with self.assertRaises(InvalidNumber) as caught:
                room_day(CHAIN, 4, value, None, (1,))
            self.assertEqual(caught.exception.word, "ends")
        for value in odd_values() + NO_ROOMS:
            with self.assertRaises(InvalidNumber) as caught:
                room_day(CHAIN, 0, 4, value, (1,))
            self.assertEqual(caught.exception.word, "room")

    def test_refused(self):
        # one order needs no room here, two need 4
        for room, things, fits in (
            (3, (1,), True), (3, (1, 2), False), (4, (1, 2), True), (4, (1, 2, 3), True), (3, (), True),
        ):
            if fits:
                self.judge(CHAIN, 0, 4, room, things)
            else:
                with self.assertRaises(Refused) as caught:
                    room_day(CHAIN, 0, 4, room, things)
                self.assertEqual(caught.exception.word, "room")


if __name__ == "__main__":
    unittest.main()
