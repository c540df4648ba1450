"""Point 46, the sentences on `room_for` and `is_room`."""

import random
import unittest

from saidatonce.errors import InvalidNumber, Refused
from saidatonce.room import is_room, room_for
from saidatonce.tables import Table
from tests.odd import Sour, Yes, odd_values, small_tables
from tests.slow import LETTERS, first_reach, game_keeps, great_table, product_reach, ring_of, slow_held, slow_rows

TABLE = Table(("a", "b", "c", "d"), ((0, 1, 1), (1, 2, 1), (2, 3, 2), (0, 3, 1), (3, 0, -9)))
BATCHES = [(), (1,), (2,), (3,), (1, 1), (1, 2), (2, 1), (1, 1, 1), (100,) * 60]
NO_BATCHES = [[1], (0,), (101,), (True,), (1,) * 61, 1, (1, 0), (1.0,), (Sour(),), (Yes(),)]
NO_ROOMS = [True, False, 1.0, "1", None, (1,), [1], Sour(), Yes()]


def ends_said(table, first, last, room):
    times = [None] * len(table.things)
    times[first], times[last] = 0, room
    return tuple(times)


def slow_room(table, first, last, batches):
    """The two ends by the words, or None where no room is held."""
    count = len(table.things)
    far = slow_rows(table, min(product_reach(batches), 2 * count))
    around = slow_rows(table, min(first_reach(batches), count))
    least, back = far[first][last], far[last][first]
    barred = any(around[thing][thing] > 0 for thing in range(count))
    barred = barred or far[first][first] > 0 or far[last][last] > 0
    if barred or least is not None and back is not None and least + back > 0:
        return None
    return least, None if back is None else -back


class RoomCase(unittest.TestCase):
    def judge(self, table, first, last, batches):
        ends = slow_room(table, first, last, batches)
        if ends is None:
            with self.assertRaises(Refused) as caught:
                room_for(table, first, last, batches)
            self.assertEqual(caught.exception.word, "barred")
            for room in (-7, 0, 1, 7):
                self.assertIs(is_room(table, first, last, batches, room), False)
            return
        self.assertEqual(room_for(table, first, last, batches), ends)
        least, greatest = ends
        low = -10 ** 400 if least is None else least
        high = 10 ** 400 if greatest is None else greatest
        self.assertIs(is_room(table, first, last, batches, low), True)
        self.assertIs(is_room(table, first, last, batches, high), True)
        self.assertIs(is_room(table, first, last, batches, (low + high) // 2), True)
        self.assertIs(is_room(table, first, last, batches, low - 1), least is None)
        self.assertIs(is_room(table, first, last, batches, high + 1), greatest is None)


class HeldTest(RoomCase):
    def test_the_example_of_the_document(self):
        self.assertEqual((room_for(TABLE, 0, 3, (1,)), room_for(TABLE, 0, 3, (1, 1))), ((1, 9), (4, 9)))

    def test_backwards(self):
        self.assertEqual(room_for(TABLE, 3, 0, (1, 1)), (-9, -4))
        self.assertEqual(room_for(table=TABLE, first=1, last=2, batches=()), (1, None))
        self.assertEqual(room_for(TABLE, 2, 1, ()), (None, -1))
        self.assertEqual(room_for(TABLE, 1, 3, ()), (None, None))
        self.assertIs(is_room(table=TABLE, first=0, last=3, batches=(1, 1), room=4), True)
        self.assertIs(is_room(TABLE, 0, 3, (1, 1), 3), False)

    def test_against_the_words(self):
        for table in small_tables(120, 5, 9, -4, 2, seed=46):
            for first in range(len(table.things)):
                for last in range(len(table.things)):
                    if first != last:
                        for batches in BATCHES:
                            self.judge(table, first, last, batches)

    def test_against_held_times(self):
        for table in small_tables(100, 4, 7, -3, 2, seed=47):
            if len(table.things) > 1:
                for batches in BATCHES:
                    for room in range(-6, 7):
                        told = slow_held(table, ends_said(table, 0, 1, room), batches)
                        self.assertIs(is_room(table, 0, 1, batches, room), told)

    def test_against_whole_games(self):
        for table in small_tables(40, 3, 5, -2, 2, seed=48):
            if len(table.things) > 1:
                for batches in ((), (1,), (2,), (1, 1)):
                    for room in range(-4, 5):
                        told = game_keeps(table, ends_said(table, 1, 0, room), batches)
                        self.assertIs(is_room(table, 1, 0, batches, room), told)

    def test_great_tables(self):
        chance = random.Random(49)
        for least, most in ((-9, 1), (-10 ** 6, 10 ** 6), (-10 ** 6, -1), (-3, 0)):
            table = great_table(chance, least, most)
            for batches in BATCHES + [(11,), (12,), (1, 11), (2, 7)]:
                self.judge(table, 3, 7, batches)


class BarredTest(RoomCase):
    def barred(self, table, first, last, batches):
        self.assertIsNone(slow_room(table, first, last, batches))
        self.judge(table, first, last, batches)

    def free(self, table, first, last, batches):
        self.assertIsNotNone(slow_room(table, first, last, batches))
        self.judge(table, first, last, batches)

    def test_a_ring_of_at_most_r_ties_that_passes_no_end(self):
        # things 2, 3 and 4 make the ring
        table = Table(tuple("abcde"), ((2, 3, 1), (3, 4, 0), (4, 2, 0)))
        for batches in ((), (1,), (2,), (1, 1)):
            self.free(table, 0, 1, batches)
        for batches in ((3,), (1, 2), (2, 1), (1, 1, 1)):
            self.barred(table, 0, 1, batches)

    def test_a_ring_of_at_most_n_ties_that_passes_an_end(self):
        table = Table(tuple("abcd"), ((0, 2, 1), (2, 3, 0), (3, 0, 0)))
        for first, last in ((0, 1), (1, 0), (1, 3)):
            for batches in ((), (1,)):
                self.free(table, first, last, batches)
            for batches in ((2,), (1, 1), (3,)):
                self.barred(table, first, last, batches)

    def test_walks_to_the_other_end_and_back(self):
        # there 2 ties, back 2, with 1 more than the way there allows
        table = Table(tuple("abcd"), ((0, 2, 2), (2, 1, 2), (1, 3, -2), (3, 0, -1)))
        self.free(table, 0, 1, ())
        for batches in ((1,), (2,), (1, 1)):
            self.barred(table, 0, 1, batches)
        two = Table(("a", "b"), ((0, 1, 3), (1, 0, -2)))
        self.barred(two, 0, 1, ())
        self.free(Table(("a", "b"), ((0, 1, 3), (1, 0, -3))), 0, 1, (100,) * 60)

    def test_walks_longer_than_there_are_things(self):
        # from thing 0 to the ring, once around it, some ties farther, and back: 7 ties and those farther
        for farther in range(5):
            ties = ((0, 1, 0), (1, 2, 0), (2, 3, 0), (3, 4, 0), (4, 5, 0), (5, 1, 1), (farther + 1, 0, 0))
            table = Table(tuple("abcdefg"), ties)
            for first, last in ((0, 6), (6, 0)):
                # N is 8 and R is 4
                if farther < 2:
                    self.barred(table, first, last, (1, 1, 1))
                else:
                    self.free(table, first, last, (1, 1, 1))
                self.free(table, first, last, (1, 2))
        # with a ring of 9: N is 16 and R is 8, and 11 ties and those farther lead around
        for farther in range(9):
            around = tuple((at, at + 1, 0) for at in range(1, 9)) + ((9, 1, 1),)
            table = Table(tuple(LETTERS[:11]), ((0, 1, 0), (farther + 1, 0, 0)) + around)
            if farther < 6:
                self.barred(table, 0, 10, (1, 1, 1, 1))
            else:
                self.free(table, 0, 10, (1, 1, 1, 1))

    def test_walks_of_at_most_n_ties(self):
        # a walk of 5 ties; a longer one tells nothing for these batches
        table = Table(tuple("abcdef"), tuple((at, at + 1, 1) for at in range(5)))
        for batches, least in (((), None), ((3,), None), ((4,), 5), ((1, 1), None), ((1, 2), 5), ((1, 1, 1), 5)):
            self.assertEqual(room_for(table, 0, 5, batches), (least, None))


class RaisedTest(unittest.TestCase):
    def invalid(self, word, first, last, batches, room):
        calls = [lambda: is_room(TABLE, first, last, batches, room)]
        if word != "room":
            calls.append(lambda: room_for(TABLE, first, last, batches))
        for call in calls:
            with self.assertRaises(InvalidNumber) as caught:
                call()
            self.assertEqual(caught.exception.word, word)

    def test_ends(self):
        for value in odd_values() + [4, -1, 10 ** 400, 1.0, "1", (1,), Sour(), Yes()]:
            self.invalid("ends", value, 1, (1,), 0)
            self.invalid("ends", 1, value, (1,), 0)
            self.invalid("ends", value, value, None, None)
        for thing in range(4):
            self.invalid("ends", thing, thing, (1,), 0)
        self.invalid("ends", True, 0, (1,), 0)
        self.invalid("ends", 0, True, (1,), 0)

    def test_batches(self):
        for value in odd_values() + NO_BATCHES:
            self.invalid("batches", 0, 3, value, 0)
            self.invalid("batches", 0, 3, value, None)

    def test_rooms(self):
        for value in odd_values() + NO_ROOMS:
            self.invalid("room", 0, 3, (1,), value)
        ring = Table(("a", "b"), ring_of(2, 1))
        with self.assertRaises(InvalidNumber):
            is_room(ring, 0, 1, (1,), None)

    def test_errors_come_ahead_of_what_is_refused(self):
        ring = Table(("a", "b"), ring_of(2, 1))
        for first, last, batches in ((0, 0, ()), (0, 1, (0,)), (0, 2, None)):
            with self.assertRaises(InvalidNumber):
                room_for(ring, first, last, batches)
        with self.assertRaises(Refused):
            room_for(ring, 0, 1, ())


if __name__ == "__main__":
    unittest.main()
