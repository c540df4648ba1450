"""Point 76: desks, over journals on disks that may be cut anywhere."""

import random

from saidatonce.deeds import is_deed, sheet_after_all
from saidatonce.desk import Desk, start_desk
from saidatonce.disk import Disk, cut_cells, pending_places
from saidatonce.errors import Broken, HourError, Refused
from saidatonce.held import is_held
from saidatonce.journal import Journal
from saidatonce.sheets import Sheet, is_sheet, new_sheet
from saidatonce.tables import Table
from tests.checks import NO_BATCHES, NO_INTEGERS, Checks
from tests.deeding import random_deed, slow_after
from tests.odd import Sour, Yes, keeps, odd_values, small_tables
from tests.slow import LETTERS, ring_of

ROW = Table(("a", "b", "c", "d"), ((0, 1, 1), (1, 2, 1), (2, 3, 2)))
NONE = (None,) * 4


def zeros(cells):
    return Disk((0,) * cells)


def cells_of(disk):
    """What is on a disk now."""
    return tuple(disk.look(at) for at in range(len(disk.cells)))


def again(disk):
    """The desk on a new disk with what is on a disk now."""
    return Desk(Disk(cells_of(disk)))


def room_on(cells):
    """How much is never refused on so many cells."""
    return cells // 2 - 8


def sheet_weight(sheet):
    """What a sheet weighs, as the document counts."""
    return 32 + 32 * (len(sheet.table.things) + len(sheet.table.ties)) + 8 * len(sheet.batches)


def deed_weight(deed):
    """What a deed weighs, as the document counts."""
    return 64 + (32 * len(deed[1]) if deed[0] == "say" else 0)


def weight_of(begun, deeds):
    return sheet_weight(begun) + sum(deed_weight(deed) for deed in deeds)


def state_of(desk):
    """What a desk keeps, in a form that can be compared and put into a list."""
    begun = desk.begun()
    return (
        (begun.table.things, begun.table.ties, begun.times, begun.batches), desk.deeds(),
        (desk.sheet.table.things, desk.sheet.table.ties, desk.sheet.times, desk.sheet.batches),
    )


class DeskCase(Checks):
    def holds(self, desk, begun=None, deeds=None):
        """The desk, and one on what is on its disk now, has this sheet and these deeds; nothing is pending."""
        other = again(desk.disk)
        self.assertEqual(state_of(desk), state_of(other))
        self.assertEqual(other.disk.events(), ())
        self.assertEqual(pending_places(desk.disk.events()), ())
        self.assertIs(is_sheet(desk.sheet), True)
        self.assertIsInstance(desk.deeds(), tuple)
        self.assertTrue(desk.sheet == sheet_after_all(desk.begun(), desk.deeds()))
        if begun is not None:
            self.assertTrue(desk.begun() == begun)
            self.assertEqual(desk.deeds(), deeds)

    def nothing_changes(self, desk, word, call, *told):
        before, events = state_of(desk), desk.disk.events()
        self.refused(word, call, *told)
        self.assertEqual(state_of(desk), before)
        self.assertEqual(desk.disk.events(), events)


class StartTest(DeskCase):
    def test_the_example_of_the_document(self):
        disk = zeros(1000)
        desk = start_desk(disk, ROW, (1, 1))
        self.assertEqual((desk.enter(0, 0), desk.enter(3, 3), desk.do(("untie", 1))), (0, 3, ("untie", 1)))
        self.assertEqual(desk.do(("more", 2)), ("more", 2))
        self.holds(desk)
        self.assertEqual(again(disk).sheet.times, (0, None, None, 3))

    def test_nothing_has_come(self):
        disk = zeros(1000)
        desk = start_desk(disk=disk, table=ROW, batches=(1, 2))
        self.assertIsInstance(desk, Desk)
        self.assertIs(desk.disk, disk)
        self.assertTrue(desk.sheet == Sheet(ROW, NONE, (1, 2)))
        self.holds(desk, new_sheet(ROW, (1, 2)), ())
        self.holds(Desk(disk=disk), new_sheet(ROW, (1, 2)), ())

    def test_in_the_place_of_another_one(self):
        disk = zeros(1000)
        start_desk(disk, ROW, (1,)).enter(0, 5)
        other = Table(("x",), ())
        self.holds(start_desk(disk, other, (3, 3)), new_sheet(other, (3, 3)), ())
        disk = zeros(1000)
        Journal(disk).renew(((1, 2, 3), (), (4,)))
        self.holds(start_desk(disk, other, ()), new_sheet(other, ()), ())

    def test_what_new_sheet_raises_comes_first(self):
        for batches in odd_values() + NO_BATCHES:
            disk = zeros(9)
            self.refused("batches", start_desk, disk, ROW, batches)
            self.assertEqual(disk.events(), ())
        ring = Table(("a", "b"), ring_of(2, 1))
        self.refused("batches", start_desk, zeros(1000), ring, (2,))
        self.holds(start_desk(zeros(1000), ring, (1,)))
        broken = Disk((0, 1, 255, 255, 255) + (9,) * 20)
        self.raised(Broken, "journal", Journal, broken)
        self.refused("batches", start_desk, broken, ring, (2,))
        self.raised(Broken, "journal", start_desk, broken, ring, (1,))
        self.raised(Broken, "journal", Desk, broken)

    def test_no_room(self):
        for cells in (1, 4, 5, 9, 40, 60):
            disk = zeros(cells)
            self.refused("room", start_desk, disk, ROW, (1, 1))
            self.assertEqual(disk.events(), ())
            self.raised(Broken, "desk", Desk, disk)


class DeedsTest(DeskCase):
    def test_do(self):
        desk = start_desk(zeros(2000), ROW, (2, 1))
        begun = desk.begun()
        done = ()
        for deed in (("say", ((0, 0), (2, 9))), ("more", 3), ("tie", (3, 0, -99)), ("untie", 0), ("thing", "bb"),
                     ("name", 4, "e"), ("less",), ("leave", 0), ("say", ()), ("more", 100)):
            self.assertEqual(desk.do(deed), deed)
            done += (deed,)
            self.holds(desk, begun, done)
        self.assertEqual(desk.sheet.table.things, ("b", "bb", "c", "e"))
        self.assertEqual(desk.sheet.times, (None, None, 9, None))

    def test_what_can_not_be_done(self):
        desk = start_desk(zeros(2000), ROW, (2, 1))
        desk.do(("say", ((0, 0),)))
        for deed in odd_values() + [
            ("say", ((0, 0),)), ("say", ((1, 0),)), ("say", ((2, 5), (3, 9))), ("more", 0), ("tie", (0, 0, 1)), ("untie", 3),
            ("thing", "a"), ("name", 0, "b"), ("leave", 4), ("less", 1), (), ["less"], "less", (Sour(),), ("say", Yes()),
        ]:
            self.nothing_changes(desk, "deed", desk.do, deed)
        self.holds(desk)
        for value in NO_INTEGERS:
            self.nothing_changes(desk, "deed", desk.do, ("more", value))

    def test_answer_and_enter(self):
        desk = start_desk(zeros(2000), ROW, (2, 1, 1))
        pairs = desk.answer((0, 2))
        self.assertEqual(tuple(thing for thing, _ in pairs), (0, 2))
        self.assertEqual(desk.deeds(), (("say", pairs),))
        self.holds(desk)
        time = desk.enter(thing=3, wish=-50)
        self.assertEqual(time, pairs[1][1] + 2)
        self.assertEqual(desk.answer(things=()), ())
        self.assertEqual(desk.deeds()[1:], (("say", ((3, time),)), ("say", ())))
        self.holds(desk)
        for call, told in ((desk.answer, ((),)), (desk.enter, (1, 0)), (desk.answer, (None,)), (desk.enter, (None, 0))):
            self.nothing_changes(desk, "batches", call, *told)
        desk.do(("more", 1))
        for value in odd_values() + [(0,), (1, 2), 1, (4,), [1]]:
            self.nothing_changes(desk, "things", desk.answer, value)
        for value in odd_values() + NO_INTEGERS + [0, 4, -1]:
            self.nothing_changes(desk, "thing", desk.enter, value, 0)
        self.nothing_changes(desk, "time", start_desk(zeros(500), ROW, (1,)).enter, 0, 10 ** 9 + 1)

    def test_deeds_at_random(self):
        chance = random.Random(761)
        for table in small_tables(30, 4, 5, -4, 1, seed=761):
            desk = start_desk(zeros(6000), table, ())
            sheet, done = desk.begun(), ()
            for _ in range(25):
                deed = random_deed(chance, sheet)
                if is_deed(sheet, deed):
                    desk.do(deed)
                    sheet, done = slow_after(sheet, deed), done + (deed,)
                    self.assertTrue(desk.sheet == sheet)
                    self.assertEqual(desk.deeds(), done)
                else:
                    self.nothing_changes(desk, "deed", desk.do, deed)
            self.holds(desk, new_sheet(table, ()), done)

    def test_two_desks_are_apart(self):
        one, other = start_desk(zeros(600), ROW, (1,)), start_desk(zeros(600), ROW, (1,))
        one.enter(0, 0)
        self.assertEqual(other.deeds(), ())
        self.assertEqual(other.sheet.times, NONE)


class UndoTest(DeskCase):
    def setUp(self):
        self.desk = start_desk(zeros(2000), ROW, (2, 1, 1))
        self.begun = self.desk.begun()

    def test_undo(self):
        done = (("more", 5), ("say", ()), ("untie", 0), ("thing", "z"), ("less",))
        for deed in done:
            self.desk.do(deed)
        for many, left in ((0, 5), (1, 4), (2, 2), (0, 2), (2, 0), (0, 0)):
            self.assertIsNone(self.desk.undo(many))
            self.holds(self.desk, self.begun, done[:left])
        self.assertTrue(self.desk.sheet == self.begun)
        self.desk.do(("less",))
        self.desk.undo(many=1)
        self.holds(self.desk, self.begun, ())

    def test_fewer_deeds(self):
        for many in (1, 2, 10 ** 30):
            self.nothing_changes(self.desk, "deeds", self.desk.undo, many)
        self.desk.do(("say", ((0, 0),)))
        self.nothing_changes(self.desk, "deeds", self.desk.undo, 2)
        self.nothing_changes(self.desk, "said", self.desk.undo, 1)

    def test_what_was_said_stays(self):
        self.desk.do(("less",))
        self.desk.do(("say", ((0, 0),)))
        self.desk.do(("say", ()))
        self.desk.do(("untie", 2))
        for many in (3, 4):
            self.nothing_changes(self.desk, "said", self.desk.undo, many)
        self.nothing_changes(self.desk, "deeds", self.desk.undo, 5)
        self.desk.undo(2)
        self.holds(self.desk, self.begun, (("less",), ("say", ((0, 0),))))
        self.nothing_changes(self.desk, "said", self.desk.undo, 1)
        self.desk.undo(0)

    def test_pack(self):
        self.desk.enter(0, 7)
        self.desk.do(("thing", "x"))
        sheet = self.desk.sheet
        self.assertIsNone(self.desk.pack())
        self.holds(self.desk, sheet, ())
        self.assertTrue(self.desk.sheet == sheet)
        for many in (1, 2):
            self.nothing_changes(self.desk, "deeds", self.desk.undo, many)
        self.desk.do(("leave", 4))
        self.holds(self.desk, sheet, (("leave", 4),))
        self.desk.undo(1)
        self.holds(self.desk, sheet, ())
        self.desk.pack()
        self.holds(self.desk, sheet, ())

    def test_begun(self):
        self.desk.do(("less",))
        self.assertTrue(self.desk.begun() == self.begun)
        self.assertTrue(again(self.desk.disk).begun() == self.begun)


class BoundsTest(DeskCase):
    def test_names_weights_and_times(self):
        table = Table(("a", "zzzzzz"), ((0, 1, -10 ** 6), (1, 0, -10 ** 6)))
        desk = start_desk(zeros(3000), table, (100,) * 60)
        self.assertEqual(desk.enter(0, 10 ** 9), 10 ** 9)
        self.holds(desk)
        self.assertEqual(desk.enter(1, -10 ** 9), 10 ** 9 - 10 ** 6)
        desk.do(("untie", 0))
        for deed in (("untie", 0), ("tie", (0, 1, -10 ** 6)), ("thing", "abcdef"), ("name", 0, "yyyyyy"),
                     ("say", ((0, -10 ** 9),)), ("less",), ("more", 1)):
            desk.do(deed)
            self.holds(desk)
        desk.pack()
        self.holds(desk)
        self.assertEqual(desk.sheet.times, (-10 ** 9, 10 ** 9, 10 ** 9 - 10 ** 6))
        desk.do(("leave", 2))
        self.holds(desk)

    def test_all_weights_and_times_near_the_octets(self):
        for number in [0] + [2 ** at + by for at in (7, 8, 15, 16, 19, 24, 29) for by in (-1, 0, 1)] + [10 ** 9]:
            for sign in (1, -1):
                desk = start_desk(zeros(900), Table(("a", "b"), ()), (1, 1))
                self.assertEqual(desk.enter(0, sign * number), sign * number)
                self.holds(desk)
                if number <= 10 ** 6:
                    desk.do(("tie", (0, 1, sign * number)))
                    self.holds(desk)
                desk.pack()
                self.holds(desk)

    def test_the_most_of_all(self):
        names = tuple(letter * 6 for letter in LETTERS)
        ties = tuple((at % 12, (at + 1) % 12, -10 ** 6) for at in range(60))
        table = Table(names, ties)
        sheet = new_sheet(table, (100,) * 60)
        cells = 2 * (sheet_weight(sheet) + 8)
        desk = start_desk(zeros(cells), table, (100,) * 60)
        self.holds(desk, sheet, ())
        desk.pack()
        self.holds(desk, sheet, ())
        desk = start_desk(zeros(20000), table, (100,) * 60)
        done = []
        for thing in range(12):
            desk.enter(thing, -10 ** 9 + thing)
        self.holds(desk)
        desk.do(("leave", 0))
        desk.do(("thing", "a"))
        self.holds(desk)
        # many deeds: as many as the document tells, at least
        while weight_of(desk.begun(), desk.deeds()) + 64 <= room_on(20000):
            deed = ("name", 0, "a" if desk.sheet.table.things[0] != "a" else "b")
            desk.do(deed)
            done.append(deed)
        self.assertGreater(len(done), 80)
        self.holds(desk)
        self.assertEqual(again(desk.disk).deeds()[-1], done[-1])

    def test_until_it_refuses(self):
        for cells in (200, 401, 800, 1300):
            for deed in (("untie", 0), ("say", ()), ("say", ((0, -5), (1, 10 ** 9 - 5))), ("thing", "zzzzzz")):
                table = Table(("a", "b"), ())
                try:
                    desk = start_desk(zeros(cells), table, (100,) * 5)
                except Refused as error:
                    self.assertEqual(error.word, "room")
                    self.assertGreater(sheet_weight(new_sheet(table, (100,) * 5)), room_on(cells))
                    continue
                while True:
                    # the same deed can be done again and again, with others between
                    told = deed
                    if deed[0] == "untie":
                        told = ("tie", (0, 1, -9)) if not desk.sheet.table.ties else deed
                    if deed[0] == "thing" and len(desk.sheet.table.things) > 2:
                        told = ("leave", 2)
                    if deed[0] == "say" and (not desk.sheet.batches or desk.sheet.times[0] is not None and deed[1]):
                        told = ("more", 100) if not desk.sheet.batches else ("less",)
                    before, events = state_of(desk), desk.disk.events()
                    try:
                        desk.do(told)
                    except Refused as error:
                        self.assertEqual(error.word, "room")
                        break
                self.assertGreater(weight_of(desk.begun(), desk.deeds() + (told,)), room_on(cells))
                self.assertEqual((state_of(desk), desk.disk.events()), (before, events))
                self.holds(desk)
                # a sheet alone has room again
                if sheet_weight(desk.sheet) <= room_on(cells):
                    desk.pack()
                    self.holds(desk)

    def test_never_refused_in_long_use(self):
        chance = random.Random(762)
        for cells in (500, 901):
            desk = start_desk(zeros(cells), Table(("a", "b"), ()), (1,))
            for _ in range(250):
                deed = random_deed(chance, desk.sheet)
                if not is_deed(desk.sheet, deed):
                    continue
                if weight_of(desk.begun(), desk.deeds() + (deed,)) <= room_on(cells):
                    desk.do(deed)
                elif sheet_weight(desk.sheet) <= room_on(cells):
                    desk.pack()
                else:
                    desk = start_desk(desk.disk, Table(("a", "b"), ()), (1,))
                self.assertEqual(state_of(again(desk.disk)), state_of(desk))

    def test_room_is_refused_last(self):
        desk = start_desk(zeros(100), Table(("a", "b"), ()), (1,))
        while True:
            try:
                desk.do(("more", 1))
            except Refused as error:
                self.assertEqual(error.word, "room")
                break
        for call, told in ((desk.do, (("more", 1),)), (desk.answer, ((0,),)), (desk.enter, (0, 5))):
            self.nothing_changes(desk, "room", call, *told)
        self.nothing_changes(desk, "deed", desk.do, ("more", 0))
        self.nothing_changes(desk, "things", desk.answer, (0, 1))
        self.nothing_changes(desk, "thing", desk.enter, 2, 0)
        self.nothing_changes(desk, "time", desk.enter, 0, 10 ** 9 + 1)


class BrokenTest(DeskCase):
    def broken(self, records, cells=3000):
        disk = zeros(cells)
        Journal(disk).renew(records)
        events = disk.events()
        self.raised(Broken, "desk", Desk, disk)
        self.assertEqual(disk.events(), events)

    def test_without_records(self):
        for cells in (1, 5, 100, 20000):
            self.raised(Broken, "desk", Desk, zeros(cells))
        self.broken(())

    def test_other_records(self):
        chance = random.Random(763)
        for record in [(), (0,), (4,), (4, 0), (4, 4), (255,) * 50, (4, 1) * 700, (3, 255) + (0,) * 20, (4, 255) * 100,
                       (4, 4, 0, 0, 0, 0), (1, 0, 0, 0, 0), tuple(range(256))]:
            self.broken((record,))
        for _ in range(400):
            self.broken((tuple(chance.choice((0, 1, 2, 3, 4, 4, 5, 255, chance.randrange(256)))
                               for _ in range(chance.randrange(60))),))

    def test_records_of_a_desk_with_an_octet_changed(self):
        desk = start_desk(zeros(1000), ROW, (1, 1))
        for deed in (("untie", 1), ("say", ((0, 5),)), ("thing", "zz"), ("tie", (0, 4, -3)), ("name", 1, "bb")):
            desk.do(deed)
        records = Journal(desk.disk).records()
        told = []
        for number, record in enumerate(records):
            for at in range(len(record)):
                for octet in {0, 1, 2, 3, 4, 5, 7, 25, 26, 128, 255, record[at] ^ 1} - {record[at]}:
                    changed = record[:at] + (octet,) + record[at + 1:]
                    told.append(self.judge(records[:number] + (changed,) + records[number + 1:]))
            told.append(self.judge(records[:number] + (record[:-1],) + records[number + 1:]))
            told.append(self.judge(records[:number] + (record + (0,),) + records[number + 1:]))
            told.append(self.judge(records[:number] + (record + record,) + records[number + 1:]))
            self.assertIs(told[-1] or told[-2] or told[-3], False)
        self.assertIn(True, told)

    def judge(self, records):
        """A journal of other records is that of a desk, all of which is right, or of none."""
        disk = zeros(2000)
        Journal(disk).renew(records)
        try:
            desk = Desk(disk)
        except Broken as error:
            self.assertEqual(error.word, "desk")
            return False
        self.assertIs(is_sheet(desk.begun()), True)
        sheet = desk.begun()
        for deed in desk.deeds():
            self.assertIs(is_deed(sheet, deed), True)
            sheet = slow_after(sheet, deed)
        self.assertTrue(desk.sheet == sheet)
        return True

    def test_deeds_that_can_not_be_done(self):
        desk = start_desk(zeros(1000), ROW, (1, 1))
        desk.do(("untie", 0))
        desk.do(("untie", 0))
        desk.do(("untie", 0))
        records = Journal(desk.disk).records()
        self.broken(records + records[1:2])
        self.broken(records + records[:1])
        self.broken(records[1:])
        self.assertIs(self.judge(records), True)

    def test_a_sheet_that_is_not_open(self):
        # the sheet of a ring that one batch of two bars, made of the records of other desks
        ring = Table(("a", "b"), ring_of(2, 1))
        one = Journal(start_desk(zeros(1000), ring, (1,)).disk).records()[0]
        two = Journal(start_desk(zeros(1000), Table(("a", "b"), ring_of(2, 0)), (2,)).disk).records()[0]
        differ = [at for at in range(len(one)) if one[at] != two[at]]
        self.assertEqual((len(one), len(differ)), (len(two), 2))
        for at in differ:
            changed = one[:at] + (two[at],) + one[at + 1:]
            told = self.judge((changed,))
            # with the greater batch the ring bars; without the weight it does not
            self.assertIs(told, at == differ[0])

    def test_cells_of_any_kind(self):
        chance = random.Random(764)
        desk = start_desk(zeros(300), Table(("a", "b"), ((0, 1, 1),)), (1, 1))
        desk.enter(0, 5)
        cells = cells_of(desk.disk)
        for _ in range(1500):
            changed = list(cells)
            for _ in range(chance.choice((1, 1, 2, 9))):
                changed[chance.randrange(120)] = chance.randrange(256)
            disk = Disk(tuple(changed))
            try:
                self.assertIs(is_sheet(Desk(disk).sheet), True)
            except Broken as error:
                self.assertIn(error.word, ("desk", "journal"))
            self.assertEqual(disk.events(), ())


class CutTest(DeskCase):
    def octets(self, chance, cells, events, places):
        """Some octets that a cut may leave: what was there, what was put last, and others."""
        flushed = [at for at, event in enumerate(events) if event is None]
        old = cut_cells(cells, events[:flushed[-1] + 1] if flushed else (), ())
        new = list(cells)
        for event in events:
            if event is not None:
                new[event[0]] = event[1]
        yield tuple(old[at] for at in places)
        yield tuple(new[at] for at in places)
        yield tuple(chance.choice((old[at], new[at], chance.randrange(256))) for at in places)
        yield tuple(chance.randrange(256) for _ in places)

    def judge(self, chance, cells, call):
        """Does a call and cuts it everywhere; what is left is the desk of before, or of behind; and it goes on."""
        desk = self.desk_on(cells)
        before = None if desk is None else state_of(desk)
        disk = Disk(cells) if desk is None else desk.disk
        desk = call(desk, disk)
        after = state_of(desk)
        events = disk.events()
        for end in range(len(events) + 1):
            places = pending_places(events[:end])
            for octets in self.octets(chance, cells, events[:end], places):
                left = cut_cells(cells, events[:end], octets)
                told = self.desk_on(left)
                state = None if told is None else state_of(told)
                self.assertIn(state, (after,) if end == len(events) else (before, after))
                if told is not None and chance.random() < 0.1:
                    deed = ("say", ()) if told.sheet.batches else ("more", 1)
                    told.do(deed)
                    self.assertEqual(state_of(again(told.disk))[1], state[1] + (deed,))
                    told.pack()
                    self.assertEqual(state_of(again(told.disk)), state_of(told))
        return desk, cells_of(disk)

    def desk_on(self, cells):
        """The desk on some cells, or None."""
        try:
            return Desk(Disk(cells))
        except Broken as error:
            self.assertEqual(error.word, "desk")
            return None

    def calls(self):
        """Calls one after another, from a disk on which there is no desk."""
        table = Table(("a", "b", "c"), ((0, 1, 1), (1, 2, 1)))
        return [
            lambda desk, disk: start_desk(disk, table, (1, 2, 1)),
            self.doing("enter", 0, 7), self.doing("do", ("untie", 1)), self.doing("do", ("thing", "bb")),
            self.doing("answer", (2, 3)), self.doing("do", ("more", 4)), self.doing("do", ("name", 0, "x")),
            self.doing("undo", 1), self.doing("undo", 0), self.doing("pack"), self.doing("do", ("leave", 0)),
            self.doing("do", ("tie", (0, 1, -5))), self.doing("do", ("less",)), self.doing("undo", 3),
            self.doing("answer", ()), lambda desk, disk: start_desk(disk, table, ()), self.doing("pack"),
        ]

    def doing(self, word, *told):
        def call(desk, _):
            getattr(desk, word)(*told)
            return desk
        return call

    def test_every_cut_of_every_call(self):
        chance = random.Random(765)
        for size in (900, 901):
            cells = (0,) * size
            for call in self.calls():
                _, cells = self.judge(chance, cells, call)

    def test_start_where_no_desk_was(self):
        chance = random.Random(766)
        for records in (((1, 2, 3),), ((), (), ())):
            disk = zeros(700)
            Journal(disk).renew(records)
            self.judge(chance, cells_of(disk), self.calls()[0])

    def test_cut_again_and_again(self):
        chance = random.Random(767)
        disk = zeros(1200)
        start_desk(disk, ROW, (2, 2))
        left = cells_of(disk)
        for _ in range(150):
            desk = Desk(Disk(left))
            deed = random_deed(chance, desk.sheet)
            before = state_of(desk)
            try:
                desk.do(deed)
            except HourError:
                desk.pack()
            events = desk.disk.events()
            events = events[:chance.randint(0, len(events))]
            octets = chance.choice(list(self.octets(chance, left, events, pending_places(events))))
            left = cut_cells(left, events, octets)
            self.assertIn(state_of(Desk(Disk(left))), (before, state_of(desk)))


class NeverStuckTest(DeskCase):
    def test_whatever_comes_all_ties_are_kept(self):
        chance = random.Random(768)
        for table in small_tables(60, 6, 10, -9, 2, seed=768):
            desk = start_desk(zeros(6000), table, ())
            for _ in range(4):
                for size in (2, 2, 1, 1):
                    if is_deed(desk.sheet, ("more", size)):
                        desk.do(("more", size))
                while desk.sheet.batches:
                    self.come(chance, desk)

    def come(self, chance, desk):
        """Something comes, perhaps nothing; no time that was said is moved."""
        free = [thing for thing, time in enumerate(desk.sheet.times) if time is None]
        said = desk.sheet.times
        if chance.random() < 0.5 and free:
            thing = chance.choice(free)
            time = desk.enter(thing, chance.randint(-9, 9))
            self.assertEqual(desk.sheet.times[thing], time)
        else:
            many = chance.randint(0, min(len(free), desk.sheet.batches[0]))
            desk.answer(tuple(sorted(chance.sample(free, many))))
        told = again(desk.disk).sheet
        self.assertTrue(all(one is None or one == other for one, other in zip(said, told.times)))
        self.assertTrue(keeps(told.table, told.times))
        self.assertTrue(is_held(told.table, told.times, told.batches))
