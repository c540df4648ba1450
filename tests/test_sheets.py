"""Point 73: sheets."""

import random

from saidatonce.held import is_held
from saidatonce.sheets import Sheet, is_sheet, new_sheet
from saidatonce.tables import Table
from tests.checks import NO_BATCHES, NO_INTEGERS, Checks
from tests.odd import Sour, Yes, odd_values, small_tables
from tests.slow import random_times, ring_of

ROW = Table(("a", "b", "c"), ((0, 1, 1), (1, 2, 1)))
RING = Table(("a", "b"), ring_of(2, 1))


class SheetTest(Checks):
    def test_they_keep_any_values(self):
        for value in odd_values():
            sheet = Sheet(value, value, value)
            self.assertIs(sheet.table, value)
            self.assertIs(sheet.times, value)
            self.assertIs(sheet.batches, value)
        sheet = Sheet(table=1, times=2, batches=3)
        self.assertEqual((sheet.table, sheet.times, sheet.batches), (1, 2, 3))

    def test_equal(self):
        one = Sheet(ROW, (0, None, 2), (1,))
        self.assertIs(one == Sheet(Table(ROW.things, ROW.ties), (0, None, 2), (1,)), True)
        self.assertIs(one != Sheet(Table(ROW.things, ROW.ties), (0, None, 2), (1,)), False)
        for other in (
            Sheet(Table(ROW.things, ROW.ties[:1]), (0, None, 2), (1,)), Sheet(ROW, (0, None, 3), (1,)),
            Sheet(ROW, (0, None, 2), (1, 1)), Sheet(ROW, (0, None, 2), ()), Sheet(None, (0, None, 2), (1,)),
            Sheet(Table(("a", "b", "d"), ROW.ties), (0, None, 2), (1,)),
        ):
            self.assertIs(one == other, False)
            self.assertIs(one != other, True)
        self.assertIs(Sheet(1, 2, 3) == Sheet(1, 2, 3), True)
        # sheets that are not open are equal, too, if all is
        self.assertIs(Sheet(RING, (0, 0), ()) == Sheet(RING, (0, 0), ()), True)

    def test_equal_to_nothing_else(self):
        sheet = Sheet(ROW, (0, None, 2), (1,))

        class Other:
            table, times, batches = sheet.table, sheet.times, sheet.batches

        for other in [None, ROW, (ROW, (0, None, 2), (1,)), 1, "sheet", Other(), [sheet], Sheet, True, object()]:
            self.assertIs(sheet == other, False)
            self.assertIs(sheet != other, True)


class OpenTest(Checks):
    def right(self, value):
        self.assertIs(is_sheet(value), True)

    def wrong(self, value):
        self.assertIs(is_sheet(value), False)

    def test_held_times(self):
        chance = random.Random(731)
        for table in small_tables(200, 5, 8, -4, 2, seed=731):
            times = random_times(chance, table)
            for batches in ((), (1,), (2,), (1, 1), (2, 1), (100,) * 60):
                self.assertIs(is_sheet(Sheet(table, times, batches)), is_held(table, times, batches))

    def test_bounds(self):
        self.right(Sheet(ROW, (-10 ** 9, None, 10 ** 9), (100,) * 60))
        self.wrong(Sheet(ROW, (-10 ** 9 - 1, None, 10 ** 9), ()))
        self.wrong(Sheet(ROW, (0, None, 10 ** 9 + 1), ()))
        self.wrong(Sheet(ROW, (0, None, 2), (100,) * 61))
        self.wrong(Sheet(ROW, (0, None, 2), (101,)))
        self.wrong(Sheet(ROW, (0, None, 1), (1,)))
        self.right(Sheet(ROW, (0, None, 1), ()))
        self.wrong(Sheet(ROW, (0, 0, None), ()))
        self.right(Sheet(RING, (None, None), (1,)))
        self.wrong(Sheet(RING, (None, None), (2,)))

    def test_values_of_all_kinds(self):
        for value in odd_values():
            self.wrong(value)
            self.wrong(Sheet(value, (0, None, 2), (1,)))
            self.wrong(Sheet(ROW, value, (1,)))
            self.wrong(Sheet(ROW, (0, None, 2), value))
        for value in NO_BATCHES:
            self.wrong(Sheet(ROW, (0, None, 2), value))
        for value in NO_INTEGERS[1:]:
            self.wrong(Sheet(ROW, (0, None, value), (1,)))
        for value in (Sheet, ROW, (ROW, (0, None, 2), (1,)), Sour(), Yes()):
            self.wrong(value)
        self.wrong(Sheet((ROW.things, ROW.ties), (0, None, 2), (1,)))
        self.wrong(Sheet(ROW, (0, None), (1,)))
        self.wrong(Sheet(ROW, [0, None, 2], (1,)))
        self.right(Sheet(ROW, (0, None, 2), (1,)))
        self.assertIs(is_sheet(value=Sheet(ROW, (0, None, 2), (1,))), True)


class NewTest(Checks):
    def test_nothing_has_come(self):
        sheet = new_sheet(ROW, (1, 2))
        self.assertIsInstance(sheet, Sheet)
        self.assertTrue(sheet == Sheet(ROW, (None,) * 3, (1, 2)))
        self.assertIs(is_sheet(sheet), True)
        self.assertTrue(new_sheet(table=RING, batches=()) == Sheet(RING, (None, None), ()))

    def test_refused(self):
        for batches in odd_values() + NO_BATCHES:
            self.refused("batches", new_sheet, ROW, batches)
        self.refused("batches", new_sheet, RING, (2,))
        self.refused("batches", new_sheet, RING, (1, 1))
        self.assertEqual(new_sheet(RING, (1,)).batches, (1,))

    def test_whether_there_is_one(self):
        for table in small_tables(200, 5, 8, -2, 2, seed=732):
            for batches in ((), (1,), (2,), (1, 1), (2, 1), (100,) * 60):
                if is_held(table, (None,) * len(table.things), batches):
                    self.assertIs(is_sheet(new_sheet(table, batches)), True)
                else:
                    self.refused("batches", new_sheet, table, batches)
