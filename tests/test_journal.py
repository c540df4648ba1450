"""Point 72: journals, over the disks of point 71."""

import itertools
import random
import unittest

from saidatonce.disk import Disk, cut_cells, pending_places
from saidatonce.errors import Broken, Refused
from saidatonce.journal import Journal


def cells_of(disk):
    """What is on a disk now."""
    return tuple(disk.look(at) for at in range(len(disk.cells)))


def again(disk):
    """The journal on a new disk with what is on a disk now."""
    return Journal(Disk(cells_of(disk)))


def weight_of(records):
    """What records weigh, as point 72 counts them."""
    return sum(len(record) + 8 for record in records)


def room_on(cells):
    """How much is never refused on so many cells."""
    return cells // 2 - 8


def record_of(chance, length):
    return tuple(chance.randrange(256) for _ in range(length))


def do(journal, call):
    """Does a call, a pair of a word and an argument."""
    word, told = call
    return {"write": journal.write, "drop": journal.drop, "renew": journal.renew}[word](told)


def behind(records, call):
    """The records behind a call."""
    word, told = call
    if word == "write":
        return records + (told,)
    if word == "drop":
        return records[:len(records) - told]
    return told


def some_call(chance, records, cells):
    """A call that is not refused."""
    while True:
        word = chance.choice(("write", "write", "drop", "renew"))
        told = record_of(chance, chance.randint(0, 12))
        if word == "drop":
            told = chance.randint(0, len(records))
        if word == "renew":
            told = tuple(record_of(chance, chance.randint(0, 9)) for _ in range(chance.randint(0, 6)))
        if word == "drop" or weight_of(behind(records, (word, told))) <= room_on(cells):
            return word, told


class JournalCase(unittest.TestCase):
    def refused(self, word, call, *told):
        with self.assertRaises(Refused) as caught:
            call(*told)
        self.assertEqual(caught.exception.word, word)

    def holds(self, journal, records):
        self.assertEqual(journal.records(), records)
        self.assertEqual(again(journal.disk).records(), records)
        self.assertEqual(pending_places(journal.disk.events()), ())


class RecordsTest(JournalCase):
    def test_none_on_zeros(self):
        for cells in (1, 2, 3, 4, 5, 6, 7, 16, 100, 20000):
            disk = Disk((0,) * cells)
            journal = Journal(disk=disk)
            self.assertIs(journal.disk, disk)
            self.assertEqual(journal.records(), ())
            self.assertEqual(disk.events(), ())

    def test_written(self):
        journal = Journal(Disk((0,) * 200))
        self.assertIsNone(journal.write((1, 2, 3)))
        self.holds(journal, ((1, 2, 3),))
        journal.write(())
        journal.write(record=(255, 0))
        self.holds(journal, ((1, 2, 3), (), (255, 0)))
        journal.write((1, 2, 3))
        self.holds(journal, ((1, 2, 3), (), (255, 0), (1, 2, 3)))

    def test_kinds_of_values(self):
        journal = Journal(Disk((0,) * 100))
        journal.write((5, 0))
        told = journal.records()
        self.assertIsInstance(told, tuple)
        self.assertIsInstance(told[0], tuple)
        self.assertTrue(all(octet.__class__ is int for octet in told[0]))

    def test_records_told_before_stay_as_they_were(self):
        journal = Journal(Disk((0,) * 100))
        journal.write((5,))
        before = journal.records()
        journal.renew(((7,), (8,)))
        self.assertEqual(before, ((5,),))

    def test_records_of_no_octets(self):
        journal = Journal(Disk((0,) * 200))
        for many in range(1, 10):
            journal.write(())
            self.holds(journal, ((),) * many)
        journal.drop(3)
        self.holds(journal, ((),) * 6)

    def test_records_of_many_octets(self):
        chance = random.Random(72)
        for cells, length in ((2000, 255), (2000, 256), (2000, 257), (2000, 984), (20000, 9984)):
            journal = Journal(Disk((0,) * cells))
            record = record_of(chance, length)
            journal.write(record)
            self.holds(journal, (record,))
            journal.renew((record[::-1],))
            self.holds(journal, (record[::-1],))
            journal.drop(1)
            self.holds(journal, ())
            journal.write((255,) * length)
            self.holds(journal, ((255,) * length,))

    def test_all_octets(self):
        journal = Journal(Disk((0,) * 900))
        journal.write(tuple(range(256)))
        self.holds(journal, (tuple(range(256)),))

    def test_drop(self):
        records = ((1,), (2, 2), (), (4,))
        for many in range(5):
            journal = Journal(Disk((0,) * 100))
            for record in records:
                journal.write(record)
            self.assertIsNone(journal.drop(many))
            self.holds(journal, records[:4 - many])
            journal.write((9, 9))
            self.holds(journal, records[:4 - many] + ((9, 9),))
            journal.drop(many=1)
            self.holds(journal, records[:4 - many])

    def test_more_than_there_are(self):
        journal = Journal(Disk((0,) * 100))
        self.refused("records", journal.drop, 1)
        journal.drop(0)
        journal.write((1,))
        journal.write((2,))
        events = journal.disk.events()
        for many in (3, 4, 100, 10 ** 30):
            self.refused("records", journal.drop, many)
        self.assertEqual(journal.disk.events(), events)
        self.holds(journal, ((1,), (2,)))
        journal.drop(2)
        self.refused("records", journal.drop, 1)
        self.holds(journal, ())

    def test_renew(self):
        journal = Journal(Disk((0,) * 100))
        self.assertIsNone(journal.renew(()))
        self.holds(journal, ())
        journal.renew(((1,), (), (3, 3)))
        self.holds(journal, ((1,), (), (3, 3)))
        journal.write((4,))
        journal.renew(records=((5,),))
        self.holds(journal, ((5,),))
        journal.renew(())
        self.holds(journal, ())
        journal.renew(((1,) * 8, (2,) * 8))
        self.holds(journal, ((1,) * 8, (2,) * 8))

    def test_a_second_journal_on_the_same_disk(self):
        disk = Disk((0,) * 100)
        Journal(disk).write((1,))
        other = Journal(disk)
        other.write((2,))
        self.assertEqual(Journal(disk).records(), ((1,), (2,)))
        other.drop(1)
        self.assertEqual(Journal(disk).records(), ((1,),))

    def test_journals_are_apart(self):
        one, other = Journal(Disk((0,) * 50)), Journal(Disk((0,) * 50))
        one.write((1,))
        self.assertEqual(other.records(), ())


class RoomTest(JournalCase):
    def test_never_refused_for_one_record(self):
        for cells in list(range(16, 120)) + [4095, 4096, 19999, 20000]:
            journal = Journal(Disk((0,) * cells))
            journal.renew(())
            self.holds(journal, ())
            length = room_on(cells) - 8
            if length >= 0:
                for _ in range(3):
                    journal.write((7,) * length)
                    self.assertEqual(journal.records(), ((7,) * length,))
                    journal.renew(((8,) * length,))
                    self.assertEqual(journal.records(), ((8,) * length,))
                    journal.drop(1)

    def test_never_refused_for_many_records(self):
        for cells in (16, 31, 32, 33, 100, 101, 1000, 1001):
            for length in (0, 1, 5):
                record = (9,) * length
                many = room_on(cells) // (length + 8)
                journal = Journal(Disk((0,) * cells))
                for at in range(many):
                    journal.write(record)
                self.holds(journal, (record,) * many)
                journal.renew((record,) * many)
                self.holds(journal, (record,) * many)
                journal.renew(())
                journal.renew((record,) * many)
                self.holds(journal, (record,) * many)

    def test_never_refused_in_long_use(self):
        chance = random.Random(73)
        for cells in (60, 97, 250):
            journal = Journal(Disk((0,) * cells))
            records = ()
            for _ in range(400):
                call = some_call(chance, records, cells)
                do(journal, call)
                records = behind(records, call)
                self.assertEqual(journal.records(), records)
            self.holds(journal, records)

    def test_refused_and_nothing_changed(self):
        for cells in (1, 2, 3, 4, 5, 6, 7, 15, 16, 40, 41, 300):
            journal = Journal(Disk((0,) * cells))
            records = ()
            while weight_of(records + ((6, 6),)) <= room_on(cells):
                journal.write((6, 6))
                records += ((6, 6),)
            events = journal.disk.events()
            self.refused("room", journal.write, (1,) * cells)
            self.refused("room", journal.renew, ((1,) * cells,))
            self.refused("room", journal.renew, ((1,),) * cells)
            self.refused("room", journal.renew, ((),) * cells)
            self.refused("room", journal.write, (1,) * 70000)
            self.refused("room", journal.write, (1,) * 65536)
            self.assertEqual(journal.disk.events(), events)
            self.holds(journal, records)

    def test_filled_until_it_refuses(self):
        for cells in range(1, 60):
            for length in (0, 1, 4):
                journal = Journal(Disk((0,) * cells))
                many = 0
                while True:
                    events = journal.disk.events()
                    try:
                        journal.write((5,) * length)
                    except Refused as error:
                        self.assertEqual(error.word, "room")
                        break
                    many += 1
                    self.assertEqual(again(journal.disk).records(), ((5,) * length,) * many)
                self.assertEqual(journal.disk.events(), events)
                self.holds(journal, ((5,) * length,) * many)
                self.assertLess(room_on(cells), weight_of(((0,) * length,) * (many + 1)))

    def test_small_disks(self):
        for cells in range(1, 16):
            journal = Journal(Disk((0,) * cells))
            journal.drop(0)
            self.refused("records", journal.drop, 1)
            try:
                journal.renew(())
            except Refused as error:
                self.assertEqual(error.word, "room")
                self.assertEqual(journal.disk.events(), ())
            self.holds(journal, ())


class EventsTest(JournalCase):
    def test_what_makes_none(self):
        disk = Disk((0,) * 100)
        journal = Journal(disk)
        journal.write((1, 2))
        journal.write((3,))
        events = disk.events()
        journal.records()
        Journal(disk).records()
        self.refused("records", journal.drop, 3)
        self.refused("room", journal.write, (0,) * 100)
        self.refused("room", journal.renew, ((0,) * 100,))
        journal.records()
        self.assertEqual(disk.events(), events)

    def test_nothing_is_pending_behind_a_call(self):
        journal = Journal(Disk((0,) * 100))
        for call in (("write", (1,)), ("write", ()), ("drop", 1), ("renew", ((2,), (3,))), ("renew", ()), ("drop", 0)):
            do(journal, call)
            self.assertEqual(pending_places(journal.disk.events()), ())

    def test_only_cells_of_the_disk(self):
        for cells in (33, 48, 49, 100):
            journal = Journal(Disk((0,) * cells))
            for call in (("write", ()), ("renew", ((),)), ("renew", ()), ("renew", ((),)), ("drop", 1), ("write", ())):
                do(journal, call)
            for event in journal.disk.events():
                self.assertTrue(event is None or event[0] in range(cells) and event[1] in range(256))

    def test_cells_of_another_kind(self):
        chance = random.Random(74)
        for cells in (1, 2, 3, 4, 5, 6, 8, 16, 40, 100):
            for _ in range(200):
                self.judge(tuple(chance.choice((0, 0, 1, 2, 127, 128, 255, chance.randrange(256)))
                                 for _ in range(cells)))

    def test_all_small_disks_of_some_octets(self):
        for cells, octets in ((5, (0, 1, 2, 128, 255)), (6, (0, 1, 2, 128)), (7, (0, 1, 128)), (9, (0, 1, 128))):
            for told in itertools.product(octets, repeat=cells):
                self.judge(told)

    def judge(self, cells):
        """A journal on any cells is broken, or has records; it makes no event."""
        disk = Disk(cells)
        try:
            journal = Journal(disk)
        except Broken as error:
            self.assertEqual(error.word, "journal")
        else:
            records = journal.records()
            self.assertTrue(all(octet in range(256) for record in records for octet in record))
        self.assertEqual(disk.events(), ())


class CutTest(JournalCase):
    def octets(self, chance, cells, events, places):
        """Some octets that a cut may leave at pending places: what was there, what was put last, and others."""
        flushed = [at for at, event in enumerate(events) if event is None]
        old = cut_cells(cells, events[:flushed[-1] + 1] if flushed else (), ())
        new = list(cells)
        for event in events:
            if event is not None:
                new[event[0]] = event[1]
        yield tuple(old[at] for at in places)
        yield tuple(new[at] for at in places)
        yield (0,) * len(places)
        yield (255,) * len(places)
        for _ in range(4):
            yield tuple(chance.choice((old[at], new[at], chance.randrange(256))) for at in places)
            yield tuple(chance.randrange(256) for _ in places)

    def cuts(self, chance, cells, events, begin):
        """Cells that cuts leave, at each moment from an event on; with whether all events have been."""
        for end in range(begin, len(events) + 1):
            places = pending_places(events[:end])
            for octets in self.octets(chance, cells, events[:end], places):
                yield cut_cells(cells, events[:end], octets), end == len(events)

    def judge(self, chance, cells, call, again=1):
        """Does a call on cells and cuts it everywhere; what is left goes on with further calls, and is cut again."""
        disk = Disk(cells)
        journal = Journal(disk)
        before = journal.records()
        do(journal, call)
        after = behind(before, call)
        self.assertEqual(journal.records(), after)
        for left, whole in self.cuts(chance, cells, disk.events(), 0):
            told = Journal(Disk(left)).records()
            self.assertIn(told, (after,) if whole else (before, after))
            if again:
                for further in (("write", (1, 2)), ("drop", len(told) // 2), ("renew", ((3,),)), call):
                    if further[0] == "drop" and further[1] > len(told):
                        continue
                    self.goes_on(chance, left, further, again - 1)

    def goes_on(self, chance, cells, call, more):
        if more or chance.random() < 0.15:
            self.judge(chance, cells, call, more)
        else:
            disk = Disk(cells)
            journal = Journal(disk)
            wanted = behind(journal.records(), call)
            do(journal, call)
            self.assertEqual(journal.records(), wanted)
            self.assertEqual(Journal(Disk(cells_of(disk))).records(), wanted)

    def test_every_cut_of_every_call(self):
        chance = random.Random(75)
        records = ((1, 2, 3), (), (4,))
        for number, cells in enumerate((100, 101)):
            journal = Journal(Disk((0,) * cells))
            if number:
                journal.renew(((9,) * 20,))
            journal.renew(records)
            begun = cells_of(journal.disk)
            for call in (("write", (5, 6)), ("write", ()), ("drop", 0), ("drop", 1), ("drop", 2), ("drop", 3),
                         ("renew", ()), ("renew", ((7, 7), (8,))), ("renew", records), ("renew", records + ((0,),))):
                self.judge(chance, begun, call)

    def test_from_zeros(self):
        chance = random.Random(76)
        for call in (("write", (5, 6)), ("write", (255,) * 10), ("write", ()), ("drop", 0), ("renew", ()),
                     ("renew", ((1,), (2,)))):
            self.judge(chance, (0,) * 80, call)

    def test_cut_once_more(self):
        chance = random.Random(77)
        journal = Journal(Disk((0,) * 70))
        journal.write((1,))
        for call in (("write", (2,)), ("drop", 1), ("renew", ((3,),))):
            disk = Disk(cells_of(journal.disk))
            do(Journal(disk), call)
            for left, _ in self.cuts(chance, disk.cells, disk.events(), 0):
                self.judge(chance, left, ("write", (4, 4)), 0)

    def test_every_octet_at_single_pending_places(self):
        journal = Journal(Disk((0,) * 60))
        journal.write((1,))
        for call in (("write", (2, 3)), ("drop", 1), ("renew", ((4,), (5,)))):
            disk = Disk(cells_of(journal.disk))
            other = Journal(disk)
            do(other, call)
            events = disk.events()
            for end in range(len(events) + 1):
                places = pending_places(events[:end])
                if len(places) == 1:
                    for octet in range(256):
                        left = Disk(cut_cells(disk.cells, events[:end], (octet,)))
                        self.assertIn(Journal(left).records(), (journal.records(), other.records()))
                        records = Journal(left).records()
                        Journal(left).write((6,))
                        self.assertEqual(Journal(left).records(), records + ((6,),))

    def test_cut_again_and_again(self):
        chance = random.Random(78)
        for cells in (64, 121):
            left = (0,) * cells
            records = ()
            for _ in range(400):
                disk = Disk(left)
                journal = Journal(disk)
                self.assertEqual(journal.records(), records)
                for _ in range(chance.randint(0, 2)):
                    records = self.doing(chance, journal, records, cells)
                call = some_call(chance, records, cells)
                begin = len(disk.events())
                do(journal, call)
                end = chance.randint(begin, len(disk.events()))
                events = disk.events()[:end]
                octets = chance.choice(list(self.octets(chance, left, events, pending_places(events))))
                left = cut_cells(left, events, octets)
                told = Journal(Disk(left)).records()
                self.assertIn(told, (records, behind(records, call)))
                records = told

    def doing(self, chance, journal, records, cells):
        call = some_call(chance, records, cells)
        do(journal, call)
        wanted = behind(records, call)
        self.assertEqual(journal.records(), wanted)
        return wanted


if __name__ == "__main__":
    unittest.main()
