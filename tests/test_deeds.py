"""Point 74: deeds."""

import random

from saidatonce.deeds import is_deed, sheet_after, sheet_after_all
from saidatonce.sheets import Sheet, is_sheet
from saidatonce.tables import Table
from tests.checks import NO_INTEGERS, Checks
from tests.deeding import is_right_deed, random_deed, random_sheet, row_sheet, said_on, slow_after
from tests.odd import Sour, Yes, odd_values, small_tables
from tests.slow import LETTERS, ring_of

ROW = Table(("b", "d", "f"), ((0, 1, 1), (1, 2, 1)))
SHEET = Sheet(ROW, (0, None, 5), (2, 1))
NEW = Sheet(ROW, (None,) * 3, ())
NO_NAMES = [value for value in NO_INTEGERS if not isinstance(value, str)]
NO_NAMES += ["", "A", "ab1", "sevenxx", "a b", b"a", ("a",), ["a"], "0"]


class DeedCase(Checks):
    def right(self, sheet, deed, behind=None):
        self.assertIs(is_deed(sheet, deed), True, deed)
        told = sheet_after(sheet, deed)
        self.assertIsInstance(told, Sheet)
        self.assertIs(is_sheet(told), True)
        if behind is not None:
            self.assertTrue(told == behind, vars(told))
        return told

    def wrong(self, sheet, *deeds):
        for deed in deeds:
            self.assertIs(is_deed(sheet, deed), False, deed)


class ManyTest(DeedCase):
    def test_by_the_words_of_the_document(self):
        chance = random.Random(741)
        done = {}
        for table in small_tables(600, 5, 7, -4, 2, seed=741):
            sheet = random_sheet(chance, table)
            deeds = []
            begun = sheet
            for _ in range(25 if sheet else 0):
                deed = random_deed(chance, sheet)
                told = is_right_deed(sheet, deed)
                self.assertIs(is_deed(sheet, deed), told, (vars(sheet), deed))
                done.setdefault(deed[0], []).append(told)
                if told:
                    behind = slow_after(sheet, deed)
                    self.right(sheet, deed, behind)
                    sheet = behind
                    deeds.append(deed)
            if sheet:
                self.assertTrue(sheet_after_all(begun, tuple(deeds)) == sheet)
        for word, told in done.items():
            self.assertTrue(told.count(True) > 20 and told.count(False) > 5, (word, told.count(True), told.count(False)))

    def test_by_names(self):
        self.assertIs(is_deed(sheet=SHEET, value=("less",)), True)
        self.assertEqual(sheet_after(sheet=SHEET, deed=("less",)).batches, (2,))
        self.assertEqual(sheet_after_all(sheet=SHEET, deeds=(("less",), ("less",))).batches, ())
        self.assertTrue(sheet_after_all(SHEET, ()) == SHEET)

    def test_values_of_all_kinds(self):
        for sheet in (SHEET, NEW):
            self.wrong(sheet, *odd_values())
            self.wrong(sheet, (), "less", ["less"], ("less", 1), ("less", ()), ("LESS",), ("no",), ("no", 1), ("", 1),
                       (Sour(),), (Yes(), 1), (None,), (0,), (("less",),), (b"less",), ("say",), ("more",), ("tie",),
                       ("untie",), ("thing",), ("name",), ("name", 0), ("leave",))
            for word in ("say", "more", "less", "tie", "untie", "thing", "name", "leave"):
                for value in odd_values() + [(0, 1), 99, -1, 10 ** 400]:
                    self.wrong(sheet, (word, value, value), (word, value, value, value))
            for value in odd_values():
                self.wrong(sheet, (value,), (value, 1), ("say", value), ("more", value), ("tie", value),
                           ("untie", value), ("thing", value), ("leave", value), ("name", 0, value),
                           ("name", value, "x"))

    def test_what_can_always_be_done(self):
        chance = random.Random(742)
        for table in small_tables(200, 5, 6, -4, 1, seed=742):
            sheet = random_sheet(chance, table)
            if sheet:
                if sheet.batches:
                    self.right(sheet, ("say", ()))
                    self.right(sheet, ("less",))
                for number in range(len(table.ties)):
                    self.right(sheet, ("untie", number))
                self.right(sheet, ("thing", "zz"))
                for thing in range(len(table.things)):
                    self.right(sheet, ("name", thing, "aaa"))
                    if len(table.things) > 1:
                        self.right(sheet, ("leave", thing))


class SayTest(DeedCase):
    def test_pairs(self):
        self.right(SHEET, ("say", ((1, 2),)), Sheet(ROW, (0, 2, 5), (1,)))
        self.right(SHEET, ("say", ()), Sheet(ROW, (0, None, 5), (1,)))
        self.right(SHEET, ("say", ((1, 1),)))
        self.right(SHEET, ("say", ((1, 4),)))
        self.wrong(SHEET, ("say", ((1, 0),)), ("say", ((1, 5),)), ("say", ((0, 0),)), ("say", ((1, 2), (2, 5))))
        nothing = row_sheet(3, (2, 1))
        self.right(nothing, ("say", ((0, 0), (1, 1))))
        self.wrong(nothing, ("say", ((1, 1), (0, 0))), ("say", ((0, 0), (0, 0))), ("say", ((0, 0), (1, 0))),
                   ("say", ((0, 0), (1, 1), (2, 2))), ("say", [(0, 0)]), ("say", ([0, 0],)), ("say", ((0,),)),
                   ("say", ((0, 0, 0),)), ("say", (0, 0)), ("say", ((3, 0),)), ("say", ((-1, 0),)), ("say", None))
        for value in NO_INTEGERS:
            self.wrong(nothing, ("say", ((0, value),)), ("say", ((value, 0),)))

    def test_there_must_be_a_batch(self):
        self.wrong(NEW, ("say", ()), ("say", ((0, 0),)))

    def test_bounds(self):
        nothing = row_sheet(3, (1,))
        for time in (-10 ** 9, 10 ** 9):
            self.right(nothing, ("say", ((0, time),)))
        self.wrong(nothing, ("say", ((0, -10 ** 9 - 1),)), ("say", ((0, 10 ** 9 + 1),)))

    def test_the_sheet_behind_must_be_open(self):
        row = row_sheet(3, (1, 1))
        sheet = said_on(row, (0,), (0,))
        self.right(sheet, ("say", ((2, 2),)))
        # b comes behind
        self.wrong(sheet, ("say", ((2, 1),)))


class BatchesTest(DeedCase):
    def test_more(self):
        self.right(NEW, ("more", 1), Sheet(ROW, (None,) * 3, (1,)))
        self.right(NEW, ("more", 100))
        self.right(SHEET, ("more", 3), Sheet(ROW, (0, None, 5), (2, 1, 3)))
        for size in [0, 101, -1, 10 ** 400] + NO_INTEGERS:
            self.wrong(NEW, ("more", size))
        tight = Sheet(ROW, (0, None, 1), ())
        self.wrong(tight, ("more", 1))
        ring = Table(("a", "b"), ring_of(2, 1))
        self.right(Sheet(ring, (None, None), ()), ("more", 1))
        self.wrong(Sheet(ring, (None, None), ()), ("more", 2))
        self.wrong(Sheet(ring, (None, None), (1,)), ("more", 1))

    def test_60_batches(self):
        self.right(row_sheet(3, (100,) * 59), ("more", 100))
        self.wrong(row_sheet(3, (100,) * 60), ("more", 100), ("more", 1))

    def test_less(self):
        self.right(SHEET, ("less",), Sheet(ROW, (0, None, 5), (2,)))
        self.right(row_sheet(3, (100,) * 60), ("less",))
        self.wrong(NEW, ("less",))


class TiesTest(DeedCase):
    def test_tie(self):
        told = self.right(SHEET, ("tie", (2, 0, -9)))
        self.assertEqual(told.table.ties, ROW.ties + ((2, 0, -9),))
        self.right(SHEET, ("tie", (0, 2, 5)))
        self.wrong(SHEET, ("tie", (0, 2, 6)))
        self.right(SHEET, ("tie", (2, 0, -5)))
        self.wrong(SHEET, ("tie", (2, 0, -4)))
        for weight in (-10 ** 6, 10 ** 6):
            self.right(NEW, ("tie", (0, 2, weight)))
        self.wrong(NEW, ("tie", (0, 2, 10 ** 6 + 1)), ("tie", (0, 2, -10 ** 6 - 1)), ("tie", (0, 0, 1)),
                   ("tie", (0, 3, 1)), ("tie", (-1, 0, 1)), ("tie", (0, 1)), ("tie", (0, 1, 1, 1)), ("tie", [0, 1, 1]))
        for value in NO_INTEGERS:
            self.wrong(NEW, ("tie", (value, 1, 1)), ("tie", (0, value, 1)), ("tie", (0, 1, value)))

    def test_60_ties(self):
        table = Table(("a", "b"), ((0, 1, 1),) * 59)
        self.right(Sheet(table, (None, None), (1,)), ("tie", (0, 1, 5)))
        full = Sheet(Table(("a", "b"), ((0, 1, 1),) * 60), (None, None), (1,))
        self.wrong(full, ("tie", (0, 1, 1)))
        self.right(full, ("untie", 59))

    def test_untie(self):
        self.right(SHEET, ("untie", 0), Sheet(Table(ROW.things, ROW.ties[1:]), SHEET.times, SHEET.batches))
        self.right(SHEET, ("untie", 1), Sheet(Table(ROW.things, ROW.ties[:1]), SHEET.times, SHEET.batches))
        for number in [2, -1, 10 ** 400] + NO_INTEGERS:
            self.wrong(SHEET, ("untie", number))
        self.wrong(Sheet(Table(("a",), ()), (None,), ()), ("untie", 0))


class ThingsTest(DeedCase):
    def test_a_further_thing(self):
        # times and ties go along with the names
        for name, things, ties, times in (
            ("a", ("a", "b", "d", "f"), ((1, 2, 1), (2, 3, 1)), (None, 0, None, 5)),
            ("c", ("b", "c", "d", "f"), ((0, 2, 1), (2, 3, 1)), (0, None, None, 5)),
            ("e", ("b", "d", "e", "f"), ((0, 1, 1), (1, 3, 1)), (0, None, None, 5)),
            ("zzzzzz", ("b", "d", "f", "zzzzzz"), ((0, 1, 1), (1, 2, 1)), (0, None, 5, None)),
            ("bb", ("b", "bb", "d", "f"), ((0, 2, 1), (2, 3, 1)), (0, None, None, 5)),
        ):
            self.right(SHEET, ("thing", name), Sheet(Table(things, ties), times, SHEET.batches))
        self.wrong(SHEET, ("thing", "b"), ("thing", "d"), ("thing", "f"))
        for name in NO_NAMES:
            self.wrong(SHEET, ("thing", name))

    def test_12_things(self):
        self.right(row_sheet(11), ("thing", "zz"))
        self.wrong(row_sheet(12), ("thing", "zz"))

    def test_another_name(self):
        told = self.right(SHEET, ("name", 0, "e"))
        self.assertTrue(told == Sheet(Table(("d", "e", "f"), ((1, 0, 1), (0, 2, 1))), (None, 0, 5), (2, 1)))
        told = self.right(SHEET, ("name", 2, "a"))
        self.assertTrue(told == Sheet(Table(("a", "b", "d"), ((1, 2, 1), (2, 0, 1))), (5, 0, None), (2, 1)))
        told = self.right(SHEET, ("name", 1, "dd"))
        self.assertTrue(told == Sheet(Table(("b", "dd", "f"), ROW.ties), (0, None, 5), (2, 1)))
        self.wrong(SHEET, ("name", 0, "b"), ("name", 0, "d"), ("name", 3, "x"), ("name", -1, "x"), ("name", "b", "x"))
        for value in NO_INTEGERS:
            self.wrong(SHEET, ("name", value, "x"))
        for name in NO_NAMES:
            self.wrong(SHEET, ("name", 0, name))
        self.right(row_sheet(12), ("name", 11, "a" * 6))

    def test_leave(self):
        self.right(SHEET, ("leave", 0), Sheet(Table(("d", "f"), ((0, 1, 1),)), (None, 5), (2, 1)))
        self.right(SHEET, ("leave", 1), Sheet(Table(("b", "f"), ()), (0, 5), (2, 1)))
        self.right(SHEET, ("leave", 2), Sheet(Table(("b", "d"), ((0, 1, 1),)), (0, None), (2, 1)))
        for thing in [3, -1, 10 ** 400] + NO_INTEGERS:
            self.wrong(SHEET, ("leave", thing))

    def test_the_only_one(self):
        alone = Sheet(Table(("a",), ()), (5,), (1,))
        self.wrong(alone, ("leave", 0))
        two = self.right(alone, ("thing", "b"))
        self.right(two, ("leave", 0), Sheet(Table(("b",), ()), (None,), (1,)))
        self.assertEqual(len(LETTERS), 12)
