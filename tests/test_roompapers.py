"""Point 48: papers of rooms."""

import random
import unittest

from saidatonce.errors import InvalidNumber
from saidatonce.room import is_room
from saidatonce.roompapers import Heavy, Roomy, is_room_paper, room_paper
from saidatonce.tables import Table
from tests.odd import Sour, Yes, odd_values, small_tables
from tests.slow import LETTERS, first_reach, great_table, product_reach, ring_of
from tests.test_room import BATCHES, NO_BATCHES, NO_ROOMS, TABLE
from tests.test_rooms import all_ends

# from thing 0 to thing 3 in one tie, weight 1, or in three, weight 4; back in one, weight -9


def changed(layers, thing, at, other, entry):
    """The layers with another entry."""
    rows = [list(row) for row in layers[thing]]
    rows[at][other] = entry
    return layers[:thing] + (tuple(tuple(row) for row in rows),) + layers[thing + 1:]


def with_rows(layers, thing, rows):
    return layers[:thing] + (tuple(rows),) + layers[thing + 1:]


class PaperCase(unittest.TestCase):
    def right(self, table, ends, batches, room, value):
        self.assertIs(is_room_paper(table, *ends, batches, room, value), True)

    def wrong(self, table, ends, batches, room, value):
        self.assertIs(is_room_paper(table, *ends, batches, room, value), False)

    def judge(self, table, ends, batches, room):
        paper = room_paper(table, *ends, batches, room)
        held = is_room(table, *ends, batches, room)
        self.assertIsInstance(paper, Roomy if held else Heavy)
        self.right(table, ends, batches, room, paper)
        return paper


class ReturnedTest(PaperCase):
    def test_small_tables(self):
        for table in small_tables(60, 5, 9, -4, 2, seed=48):
            for ends in all_ends(table)[:3]:
                for batches in BATCHES + [(4,), (2, 2)]:
                    for room in (-10 ** 400, -3, -1, 0, 2, 5, 10 ** 400):
                        self.judge(table, ends, batches, room)

    def test_great_tables(self):
        chance = random.Random(49)
        for least, most in ((-9, 1), (-10 ** 6, 10 ** 6), (-10 ** 6, -1), (-3, 0)):
            table = great_table(chance, least, most)
            for batches in BATCHES + [(11,), (1, 11)]:
                for room in (-10 ** 6, 0, 10 ** 6):
                    self.judge(table, (3, 7), batches, room)

    def test_rings(self):
        for count in range(2, 13):
            for weight in (-1, 0, 1):
                table = Table(tuple(LETTERS[:count]), ring_of(count, weight))
                for batches in BATCHES + [(count - 1,), (count,)]:
                    for room in (-2, -1, 0, 1, 2):
                        self.judge(table, (0, count - 1), batches, room)

    def test_walks_longer_than_there_are_things(self):
        for farther in range(5):
            ties = ((0, 1, 0), (1, 2, 0), (2, 3, 0), (3, 4, 0), (4, 5, 0), (5, 1, 1), (farther + 1, 0, 0))
            paper = self.judge(Table(tuple("abcdefg"), ties), (0, 6), (1, 1, 1), 0)
            self.assertIs(isinstance(paper, Heavy), farther < 2)

    def test_names_of_parameters(self):
        paper = room_paper(table=TABLE, first=0, last=3, batches=(1,), room=5)
        told = is_room_paper(table=TABLE, first=0, last=3, batches=(1,), room=5, value=paper)
        self.assertIs(told, True)

    def test_never_both(self):
        """What is right for a room that is held is not for one that is not, and the other way round."""
        for table in small_tables(60, 4, 7, -3, 2, seed=50):
            for ends in all_ends(table)[:2]:
                for batches in BATCHES[:8]:
                    papers = [(room, room_paper(table, *ends, batches, room)) for room in range(-4, 6, 3)]
                    for room in range(-4, 6):
                        held = is_room(table, *ends, batches, room)
                        for _, paper in papers:
                            if isinstance(paper, Roomy) != held:
                                self.wrong(table, ends, batches, room, paper)


class HeavyTest(PaperCase):
    def test_the_weight_and_the_room(self):
        # 3 ties with the weight 4, 1 tie back with the weight -9
        for room, right in ((3, True), (4, False), (5, False), (-10 ** 400, True)):
            self.assertIs(is_room_paper(TABLE, 0, 3, (2,), room, Heavy((0, 1, 2))), right)
        for room, right in ((9, False), (10, True), (8, False), (10 ** 400, True)):
            self.assertIs(is_room_paper(TABLE, 0, 3, (2,), room, Heavy((4,))), right)
        # with the ends turned the same walks stand for the other ends
        self.right(TABLE, (3, 0), (2,), -3, Heavy((0, 1, 2)))
        self.wrong(TABLE, (3, 0), (2,), -4, Heavy((0, 1, 2)))
        self.right(TABLE, (3, 0), (), -10, Heavy((4,)))
        self.wrong(TABLE, (3, 0), (), -9, Heavy((4,)))

    def test_the_number_of_ties(self):
        for batches in BATCHES:
            told = is_room_paper(TABLE, 0, 3, batches, 0, Heavy((0, 1, 2)))
            self.assertIs(told, product_reach(batches) >= 3)
        self.right(TABLE, (0, 3), (), 0, Heavy((3,)))
        back = Table(tuple("abc"), ((2, 0, 5), (1, 2, 5), (0, 1, -9)))
        self.wrong(back, (0, 1), (), 0, Heavy((1, 0)))
        self.right(back, (0, 1), (1,), 0, Heavy((1, 0)))
        self.right(back, (0, 1), (1,), -9, Heavy((1, 0)))
        self.wrong(back, (0, 1), (1,), -10, Heavy((1, 0)))

    def test_walks_to_other_ends(self):
        self.wrong(TABLE, (0, 3), (2,), -99, Heavy((0, 1)))
        self.wrong(TABLE, (0, 3), (2,), -99, Heavy((1, 2)))
        self.wrong(TABLE, (0, 3), (2,), -99, Heavy((1,)))
        self.right(TABLE, (0, 2), (2,), 1, Heavy((0, 1)))

    def test_rings_that_pass_an_end(self):
        # 4 ties: with N from 4 on, also if R is less
        ring = Table(tuple("abcde"), ring_of(4, 1))
        for batches in BATCHES + [(4,)]:
            for walk in ((0, 1, 2, 3), (2, 3, 0, 1)):
                for ends in ((0, 4), (4, 0), (4, 3), (1, 2)):
                    told = is_room_paper(ring, *ends, batches, 0, Heavy(walk))
                    self.assertIs(told, product_reach(batches) >= 4)

    def test_rings_that_pass_no_end(self):
        ring = Table(tuple("abcdef"), ring_of(4, 1))
        for batches in BATCHES + [(4,)]:
            for ends in ((4, 5), (5, 4)):
                told = is_room_paper(ring, *ends, batches, 0, Heavy((1, 2, 3, 0)))
                self.assertIs(told, first_reach(batches) >= 4)

    def test_rings_of_0(self):
        for weight in (-1, 0):
            ring = Table(tuple("abcd"), ring_of(4, weight))
            self.wrong(ring, (0, 1), (9,), 10 ** 9, Heavy((0, 1, 2, 3)))

    def test_long_walks(self):
        ring = Table(tuple("abc"), ring_of(2, 1))
        self.right(ring, (0, 2), (100, 100), 0, Heavy((0, 1) * 250))
        self.wrong(ring, (0, 2), (100, 100), 0, Heavy((0, 1) * 251))
        self.wrong(ring, (0, 1), (100, 100), -10 ** 6, Heavy((0, 1) * 250 + (0,)))
        self.right(ring, (0, 1), (100, 100), -10 ** 6, Heavy((0, 1) * 249 + (0,)))

    def test_no_walks(self):
        for walk in ((), (0, 2), (5,), (-1,), (0, 1, 2, 3, 9), [3], (True,), (3.0,), (None,), ((3,),)):
            self.wrong(TABLE, (0, 3), (9,), -99, Heavy(walk))
        self.right(TABLE, (0, 3), (9,), -99, Heavy((3,)))


class RoomyTest(PaperCase):
    def setUp(self):
        # N is 2 and R is 1; the least room is 1
        self.paper = room_paper(TABLE, 0, 3, (1,), 5)
        self.layers = self.paper.layers

    def told(self, layers, room=5, batches=(1,)):
        return is_room_paper(TABLE, 0, 3, batches, room, Roomy(layers))

    def test_the_room(self):
        for room in range(-2, 12):
            self.assertIs(self.told(self.layers, room), 1 <= room <= 9)

    def test_none_at_the_other_end_bounds_nothing(self):
        table = Table(("a", "b"), ((0, 1, 3),))
        paper = room_paper(table, 0, 1, (2,), 3)
        self.right(table, (0, 1), (2,), 10 ** 400, paper)
        self.wrong(table, (0, 1), (2,), 2, paper)
        self.right(table, (1, 0), (2,), -3, paper)
        self.right(table, (1, 0), (2,), -10 ** 400, paper)
        self.wrong(table, (1, 0), (2,), -2, paper)

    def test_each_entry_one_less(self):
        """Layers are as small as they can be: no integer in them can be less, or None."""
        for thing, rows in enumerate(self.layers):
            for at, row in enumerate(rows):
                for other, entry in enumerate(row):
                    if entry is not None:
                        self.assertIs(self.told(changed(self.layers, thing, at, other, entry - 1)), False)
                        self.assertIs(self.told(changed(self.layers, thing, at, other, None)), False)

    def test_entries_above_what_is_due(self):
        # in the last rows another entry may be anything more, but that of the thing itself and of the other end
        for thing, rows in enumerate(self.layers):
            at = len(rows) - 1
            for other in range(4):
                more = changed(self.layers, thing, at, other, 10 ** 6)
                bound = other == thing or (thing, other) in ((0, 3), (3, 0))
                self.assertIs(self.told(more), not bound)
        self.assertIs(self.told(changed(self.layers, 0, 2, 3, 5)), True)
        self.assertIs(self.told(changed(self.layers, 0, 2, 3, 6)), False)
        self.assertIs(self.told(changed(self.layers, 3, 2, 0, -5)), True)
        self.assertIs(self.told(changed(self.layers, 3, 2, 0, -4)), False)

    def test_the_first_row(self):
        for entry in (-1, None, -10 ** 400):
            self.assertIs(self.told(changed(self.layers, 1, 0, 1, entry)), False)
        self.assertIs(self.told(changed(self.layers, 1, 0, 1, 1)), False)
        # others may have more than is due from the beginning, if all behind is right
        self.assertIs(self.told(changed(self.layers, 1, 0, 3, -7)), False)
        higher = changed(changed(self.layers, 1, 0, 3, -7), 1, 1, 3, -7)
        higher = changed(higher, 1, 1, 0, -16)
        self.assertIs(self.told(higher), True)
        self.assertIs(self.told(changed(higher, 1, 1, 3, -8)), False)
        self.assertIs(self.told(changed(higher, 1, 1, 0, -17)), False)

    def test_the_number_of_rows(self):
        self.assertEqual([len(rows) for rows in self.layers], [3, 2, 2, 3])
        for thing, rows in enumerate(self.layers):
            self.assertIs(self.told(with_rows(self.layers, thing, rows[:-1])), False)
            self.assertIs(self.told(with_rows(self.layers, thing, ())), False)
            # a row twice is right only if nothing new is due
            self.assertIs(self.told(with_rows(self.layers, thing, rows + rows[-1:])), False)
            self.assertIs(self.told(with_rows(self.layers, thing, rows[:1] + rows)), False)
        self.assertIs(self.told(self.layers[:3]), False)
        self.assertIs(self.told(self.layers + self.layers[:1]), False)

    def test_more_rows_than_are_needed(self):
        for batches in ((), (1,), (2,), (1, 1), (100,) * 60):
            paper = room_paper(TABLE, 0, 3, (100,) * 60, 5)
            self.assertIs(self.told(paper.layers, 5, batches), True)
            longer = tuple(rows + rows[-1:] * 3 for rows in paper.layers)
            self.assertIs(self.told(longer, 5, batches), True)
        # fewer than are needed tell nothing for greater batches
        for batches, right in (((), True), ((1,), True), ((2,), False), ((1, 1), False)):
            self.assertIs(self.told(self.layers, 5, batches), right)

    def test_a_last_row_that_is_right_behind_itself(self):
        steady = room_paper(TABLE, 0, 3, (100,) * 60, 5).layers
        self.assertIs(self.told(steady, 5, (100,) * 60), True)
        single = tuple(rows[-1:] for rows in steady)
        self.assertIs(self.told(single, 5, (100,) * 60), True)
        for thing, rows in enumerate(single):
            for other, entry in enumerate(rows[0]):
                told = self.told(changed(single, thing, 0, other, entry - 1), 5, (100,) * 60)
                self.assertIs(told, False)

    def test_the_thing_itself_at_the_end(self):
        for thing, rows in enumerate(self.layers):
            for at in range(len(rows)):
                self.assertIs(self.told(changed(self.layers, thing, at, thing, 1)), False)

    def test_a_ring_is_longer_than_ends_look(self):
        # a ring of 4 through the first end: N is 3, and with 4 ties no layers are right
        ring = Table(tuple("abcde"), ring_of(4, 1))
        paper = self.judge(ring, (0, 4), (2,), 0)
        self.assertIsInstance(paper, Roomy)
        self.assertEqual(len(paper.layers[0]), 4)
        self.wrong(ring, (0, 4), (3,), 0, paper)
        self.assertIsInstance(self.judge(ring, (0, 4), (3,), 0), Heavy)

    def test_values_of_all_kinds(self):
        for value in odd_values() + [list(self.layers), (self.layers,), self.layers[:1], ((),) * 4]:
            self.assertIs(self.told(value), False)
            self.wrong(TABLE, (0, 3), (1,), 5, value)
            self.wrong(TABLE, (0, 3), (1,), 0, Heavy(value))
            for thing in range(4):
                self.assertIs(self.told(self.layers[:thing] + (value,) + self.layers[thing + 1:]), False)
                self.assertIs(self.told(with_rows(self.layers, thing, self.layers[thing][:-1] + (value,))), False)
        self.wrong(TABLE, (0, 3), (1,), 5, self.layers)
        for thing, rows in enumerate(self.layers):
            self.assertIs(self.told(self.layers[:thing] + (list(rows),) + self.layers[thing + 1:]), False)
            self.assertIs(self.told(with_rows(self.layers, thing, rows[:-1] + (list(rows[-1]),))), False)
            self.assertIs(self.told(with_rows(self.layers, thing, rows[:-1] + (rows[-1] + (None,),))), False)
            self.assertIs(self.told(with_rows(self.layers, thing, rows[:-1] + (rows[-1][:-1],))), False)
        for entry in (True, False, 0.0, 5.0, "0", b"", (0,), [], Sour(), Yes()):
            for thing, rows in enumerate(self.layers):
                for other in range(4):
                    self.assertIs(self.told(changed(self.layers, thing, len(rows) - 1, other, entry)), False)

    def test_they_keep_any_values(self):
        for value in odd_values():
            self.assertIs(Roomy(value).layers, value)
            self.assertIs(Heavy(value).walk, value)
        self.assertEqual((Roomy(layers=5).layers, Heavy(walk=6).walk), (5, 6))


class RaisedTest(unittest.TestCase):
    def invalid(self, word, first, last, batches, room):
        for call in (
            lambda: room_paper(TABLE, first, last, batches, room),
            lambda: is_room_paper(TABLE, first, last, batches, room, None),
        ):
            with self.assertRaises(InvalidNumber) as caught:
                call()
            self.assertEqual(caught.exception.word, word)

    def test_errors_and_their_order(self):
        for value in odd_values() + [4, -1, 1, Sour()]:
            self.invalid("ends", value, 1, None, None)
            self.invalid("ends", 1, value, (1,), 0)
        for value in odd_values() + NO_BATCHES:
            self.invalid("batches", 0, 3, value, None)
            self.invalid("batches", 0, 3, value, 1)
        for value in odd_values() + NO_ROOMS:
            self.invalid("room", 0, 3, (), value)


if __name__ == "__main__":
    unittest.main()
