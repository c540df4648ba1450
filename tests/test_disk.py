"""Point 71: disks."""

import random
import unittest

from saidatonce.disk import Disk, cut_cells, pending_places
from saidatonce.errors import Refused
from tests.odd import Sour, Yes, odd_values


class DiskTest(unittest.TestCase):
    def refused(self, value):
        with self.assertRaises(Refused) as caught:
            Disk(value)
        self.assertEqual(caught.exception.word, "cells")

    def test_what_it_refuses(self):
        for value in odd_values() + [(), 0, 5, -1]:
            if not (isinstance(value, tuple) and len(value) == 30000):
                self.refused(value)
        for item in (-1, 256, True, False, None, 1.0, "1", (0,), [0], Sour(), Yes(), 10 ** 400):
            self.refused((item,))
            self.refused((0, item, 255))
            self.refused((0,) * 9 + (item,))
        self.refused([0, 1])
        self.refused(b"ab")

    def test_how_many_cells(self):
        self.refused(())
        self.refused((0,) * 20001)
        self.refused((0,) * 30000)
        for many in (1, 2, 19999, 20000):
            self.assertEqual(Disk((7,) * many).cells, (7,) * many)

    def test_the_octets(self):
        cells = tuple(range(256))
        disk = Disk(cells)
        self.assertEqual(tuple(disk.look(at) for at in range(256)), cells)

    def test_the_attribute_is_what_the_disk_began_with(self):
        disk = Disk((1, 2, 3))
        disk.put(0, 9)
        self.assertEqual(disk.cells, (1, 2, 3))
        disk.flush()
        disk.put(2, 8)
        disk.flush()
        self.assertEqual(disk.cells, (1, 2, 3))
        self.assertEqual(Disk(cells=(4,)).cells, (4,))

    def test_look_tells_what_was_put_last(self):
        disk = Disk((1, 2, 3))
        disk.put(1, 0)
        self.assertEqual([disk.look(at) for at in range(3)], [1, 0, 3])
        disk.put(1, 255)
        disk.put(2, 4)
        self.assertEqual([disk.look(at) for at in range(3)], [1, 255, 4])
        disk.flush()
        self.assertEqual([disk.look(at) for at in range(3)], [1, 255, 4])

    def test_events_in_their_sequence(self):
        disk = Disk((1, 2, 3))
        self.assertEqual(disk.events(), ())
        disk.flush()
        self.assertEqual(disk.events(), (None,))
        disk.put(2, 5)
        disk.put(0, 1)
        disk.put(2, 5)
        before = disk.events()
        disk.flush()
        disk.flush()
        disk.put(1, 0)
        self.assertEqual(before, (None, (2, 5), (0, 1), (2, 5)))
        self.assertEqual(disk.events(), (None, (2, 5), (0, 1), (2, 5), None, None, (1, 0)))

    def test_what_returns_nothing(self):
        disk = Disk((0,))
        self.assertIsNone(disk.put(0, 1))
        self.assertIsNone(disk.put(at=0, octet=2))
        self.assertIsNone(disk.flush())
        self.assertEqual(disk.look(at=0), 2)
        self.assertEqual(disk.events(), ((0, 1), (0, 2), None))

    def test_looking_makes_no_event(self):
        disk = Disk((0, 1))
        disk.look(0)
        disk.events()
        self.assertEqual(disk.events(), ())

    def test_disks_are_apart(self):
        one, other = Disk((0, 0)), Disk((0, 0))
        one.put(1, 6)
        self.assertEqual((other.look(1), other.events()), (0, ()))


class CutTest(unittest.TestCase):
    def test_pending_places(self):
        self.assertEqual(pending_places(()), ())
        self.assertEqual(pending_places((None,)), ())
        self.assertEqual(pending_places(((3, 1), (1, 2), (3, 0))), (1, 3))
        self.assertEqual(pending_places(((3, 1), None)), ())
        self.assertEqual(pending_places(((3, 1), None, (2, 1))), (2,))
        self.assertEqual(pending_places(((3, 1), None, (2, 1), None, (9, 0), (2, 4))), (2, 9))
        self.assertEqual(pending_places(events=((10, 1), (9, 1), (11, 0))), (9, 10, 11))

    def test_cut_without_pending_places(self):
        self.assertEqual(cut_cells((1, 2, 3), (), ()), (1, 2, 3))
        self.assertEqual(cut_cells((1, 2, 3), (None,), ()), (1, 2, 3))
        self.assertEqual(cut_cells((1, 2, 3), ((0, 7), (0, 8), None), ()), (8, 2, 3))

    def test_cut_with_pending_places(self):
        self.assertEqual(cut_cells((1, 2, 3), ((0, 7),), (99,)), (99, 2, 3))
        self.assertEqual(cut_cells((1, 2, 3), ((2, 7), (0, 8)), (50, 60)), (50, 2, 60))
        events = ((0, 7), (1, 5), None, (2, 8), (0, 9))
        self.assertEqual(cut_cells((1, 2, 3), events, (10, 20)), (10, 5, 20))
        self.assertEqual(cut_cells(cells=(1, 2, 3), events=events, octets=(0, 255)), (0, 5, 255))

    def test_cut_against_a_slow_way(self):
        chance = random.Random(71)
        for _ in range(200):
            cells = tuple(chance.randrange(256) for _ in range(chance.randint(1, 6)))
            disk = Disk(cells)
            for _ in range(chance.randint(0, 12)):
                if chance.random() < 0.2:
                    disk.flush()
                else:
                    disk.put(chance.randrange(len(cells)), chance.randrange(256))
            events = disk.events()
            flushes = [at for at, event in enumerate(events) if event is None]
            behind = events[flushes[-1] + 1:] if flushes else events
            places = sorted({event[0] for event in behind})
            self.assertEqual(pending_places(events), tuple(places))
            octets = tuple(chance.randrange(256) for _ in places)
            left = [disk.look(at) for at in range(len(cells))]
            for at, octet in zip(places, octets):
                left[at] = octet
            self.assertEqual(cut_cells(cells, events, octets), tuple(left))


if __name__ == "__main__":
    unittest.main()
