"""Point 47: what it costs not to know."""

import random
import unittest

from saidatonce.errors import InvalidNumber, Refused
from saidatonce.room import is_room, room_for
from saidatonce.rooms import most_orders, room_steps, table_with_rooms
from saidatonce.steady import barring_walk
from saidatonce.tables import Table
from tests.odd import Sour, Yes, odd_values, small_tables
from tests.slow import LETTERS, product_reach, ring_of
from tests.test_room import NO_ROOMS, TABLE

MOST = 10 ** 6


def all_ends(table):
    things = range(len(table.things))
    return [(first, last) for first in things for last in things if first != last]


def held(table, first, last, batches, room):
    return is_room(table, first, last, batches, room)


class StepsTest(unittest.TestCase):
    def test_the_example_of_the_document(self):
        self.assertEqual(room_steps(TABLE, 0, 3), ((0, 1), (2, 4)))
        self.assertEqual(most_orders(TABLE, 0, 3, 3), (1, 1))

    def slow_steps(self, table, first, last):
        """Room by room, for 0 to 40 things known together."""
        steps, before = [], None
        for many in range(41):
            least = room_for(table, first, last, (many,) if many else ())[0]
            if least != before:
                steps.append((many, least))
            before = least
        return tuple(steps)

    def test_against_rooms_one_by_one(self):
        for table in small_tables(80, 5, 8, -4, 1, seed=47):
            for first, last in all_ends(table)[:6]:
                if barring_walk(table, 12) is None:
                    self.assertEqual(room_steps(table, first, last), self.slow_steps(table, first, last))
                else:
                    with self.assertRaises(Refused) as caught:
                        room_steps(table, first, last)
                    self.assertEqual(caught.exception.word, "barred")

    def test_none_at_0(self):
        chain = Table(tuple("abcd"), ((0, 1, 1), (1, 2, 1), (2, 3, 1), (0, 2, 5)))
        self.assertEqual(room_steps(table=chain, first=0, last=3), ((1, 6),))
        self.assertEqual(room_steps(chain, 3, 0), ())
        self.assertEqual(room_steps(chain, 0, 2), ((0, 5),))

    def test_all_steps_of_12_things(self):
        table = table_with_rooms(tuple(range(-5, 6)))
        self.assertEqual(room_steps(table, 0, 1), tuple(enumerate(range(-5, 6))))

    def test_a_ring_far_away(self):
        with self.assertRaises(Refused) as caught:
            room_steps(Table(tuple("abcd"), ((0, 1, 1), (2, 3, 1), (3, 2, 0))), 0, 1)
        self.assertEqual(caught.exception.word, "barred")
        self.assertEqual(room_steps(Table(tuple("abcd"), ((0, 1, 1), (2, 3, 1), (3, 2, -1))), 0, 1), ((0, 1),))

    def test_batches_need_the_room_of_as_many_known_together(self):
        for table in small_tables(60, 5, 8, -4, 1, seed=48):
            if barring_walk(table, 12) is None:
                for first, last in all_ends(table)[:4]:
                    for batches in ((1,), (1, 1), (2, 1), (1, 2), (1, 1, 1), (1,) * 4, (1,) * 9):
                        together = min(product_reach(batches) - 1, 100)
                        self.assertEqual(
                            room_for(table, first, last, batches), room_for(table, first, last, (together,))
                        )
                    self.assertEqual(room_for(table, first, last, (1,) * 4), room_for(table, first, last, (100,) * 60))


class MostTest(unittest.TestCase):
    def slow_most(self, table, first, last, room, kinds):
        """The last number for which the room is held; all are tried."""
        for many, batches in enumerate(kinds):
            if not held(table, first, last, batches, room):
                return many - 1
        return None

    def test_against_rooms_one_by_one(self):
        seen = set()
        for table in small_tables(150, 6, 9, -4, 2, seed=49):
            for first, last in all_ends(table)[:3]:
                for room in range(-5, 9, 2):
                    if not held(table, first, last, (), room):
                        with self.assertRaises(Refused) as caught:
                            most_orders(table, first, last, room)
                        self.assertEqual(caught.exception.word, "room")
                        continue
                    told = (
                        self.slow_most(table, first, last, room, [(1,) * many for many in range(12)]),
                        self.slow_most(table, first, last, room, [()] + [(many,) for many in range(1, 40)]),
                    )
                    self.assertEqual(most_orders(table, first, last, room), told)
                    # what is held for any number one by one is for any number at once, and the other way round
                    self.assertEqual(told[0] is None, told[1] is None)
                    seen.add(told)
        self.assertTrue({(None, None), (0, 0), (1, 1), (1, 2)} <= seen, seen)

    def test_rings_above_0(self):
        # a ring of 3 that passes an end is too heavy for one batch of 2 and for two orders
        ring = Table(tuple("abcd"), ring_of(3, 1))
        self.assertEqual(most_orders(ring, 0, 3, 0), (1, 1))
        self.assertEqual(most_orders(Table(tuple("abcd"), ring_of(3, 0)), 0, 3, 0), (None, None))
        # rings that pass no end: of 2, 3, 4, 5 things
        self.assertEqual(
            [
                most_orders(Table(tuple(LETTERS[:count + 2]), ring_of(count, 1)), count, count + 1, 0)
                for count in (2, 3, 4, 5, 8, 9, 10)
            ],
            [(1, 1), (2, 2), (2, 3), (3, 4), (3, 7), (4, 8), (4, 9)],
        )

    def test_powers_of_2_without_rings(self):
        for table in small_tables(120, 6, 9, -4, 1, seed=50):
            if barring_walk(table, 12) is None:
                for first, last in all_ends(table)[:3]:
                    for room in range(-6, 7, 3):
                        if held(table, first, last, (), room):
                            orders, things = most_orders(table, first, last, room)
                            self.assertEqual(orders is None, things is None)
                            if orders is not None:
                                self.assertTrue(2 ** orders <= things + 1 < 2 ** (orders + 1))

    def test_12_things(self):
        table = table_with_rooms((0, 1, 2, 3, 4, 5, 6, 7, 8, 9, 10))
        told = [most_orders(table, 0, 1, room) for room in range(11)]
        orders = [0, 1, 1, 2, 2, 2, 2, 3, 3, 3, None]
        self.assertEqual(told, list(zip(orders, list(range(10)) + [None])))
        self.assertEqual(most_orders(table=table, first=0, last=1, room=10 ** 400), (None, None))


class TableTest(unittest.TestCase):
    def judge(self, rooms):
        table = table_with_rooms(rooms)
        self.assertIsInstance(table, Table)
        self.assertIsNone(barring_walk(table, 12))
        for many in list(range(len(rooms) + 3)) + [100]:
            told = room_for(table, 0, 1, (many,) if many else ())[0]
            self.assertEqual(told, rooms[min(many, len(rooms) - 1)], (rooms, many))

    def test_rooms(self):
        for length in range(1, 12):
            for gone in range(length + 1):
                self.judge((None,) * gone + tuple(range(gone, length)))
                self.judge((None,) * gone + (-3,) * (length - gone))
        self.judge((-MOST, MOST))
        self.judge((-MOST,) * 5 + (MOST,) * 6)
        self.assertEqual(room_for(table_with_rooms(rooms=(7,)), 0, 1, ()), (7, None))

    def test_random_ones(self):
        chance = random.Random(51)
        for _ in range(100):
            length = chance.randint(1, 11)
            gone = chance.randint(0, length)
            self.judge((None,) * gone + tuple(sorted(chance.randint(-9, 9) for _ in range(length - gone))))

    def test_no_rooms(self):
        wrong = odd_values() + [
            (), (1,) * 12, (None,) * 12, [1], (1, None), (None, 1, None), (2, 1), (None, 2, 1), (1, 2, 1), (MOST + 1,),
            (-MOST - 1,), (0, MOST + 1), (True,), (0, True), (1.0,), ("1",), ((1,),), ([1],), (Sour(),), (Yes(),),
            (None, Sour()), (10 ** 400,), (1, Yes()), (None, 0.0),
        ]
        for value in wrong:
            with self.assertRaises(InvalidNumber) as caught:
                table_with_rooms(value)
            self.assertEqual(caught.exception.word, "rooms")
        self.judge((None,) * 11)
        self.judge((None,))


class RaisedTest(unittest.TestCase):
    def test_ends(self):
        ring = Table(("a", "b"), ring_of(2, 1))
        for value in odd_values() + [2, -1, 0, Sour(), Yes()]:
            for call in (lambda: room_steps(ring, value, 0), lambda: room_steps(ring, 0, value),
                         lambda: most_orders(ring, value, 0, None), lambda: most_orders(ring, 0, value, 9)):
                with self.assertRaises(InvalidNumber) as caught:
                    call()
                self.assertEqual(caught.exception.word, "ends")

    def test_rooms(self):
        for value in NO_ROOMS + odd_values():
            with self.assertRaises(InvalidNumber) as caught:
                most_orders(TABLE, 0, 3, value)
            self.assertEqual(caught.exception.word, "room")

    def test_refused(self):
        for room in (0, 10, -10 ** 400, 10 ** 400):
            with self.assertRaises(Refused) as caught:
                most_orders(TABLE, 0, 3, room)
            self.assertEqual(caught.exception.word, "room")
        for room in (1, 9):
            most_orders(TABLE, 0, 3, room)


if __name__ == "__main__":
    unittest.main()
