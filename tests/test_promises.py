"""Point 75: deeds that a sheet is never without, and how much more it can bear."""

import random

from saidatonce.clerk import batch_times
from saidatonce.deeds import is_deed
from saidatonce.promises import heaviest_tie, hour_deed, most_more, say_deed
from saidatonce.ranges import hours_for
from saidatonce.sheets import Sheet, is_sheet, new_sheet
from saidatonce.tables import Table
from tests.checks import NO_INTEGERS, Checks
from tests.deeding import random_sheet, row_sheet, said_on
from tests.odd import Sour, Yes, odd_values, small_tables
from tests.slow import LETTERS, great_table, lots_of, missing_things, random_times, ring_of

BOUND = 10 ** 9


def some_sheets(many, seed, *told):
    """Some open sheets of small tables."""
    chance = random.Random(seed)
    sheets = [random_sheet(chance, table) for table in small_tables(many, *told, seed=seed)]
    return [sheet for sheet in sheets if sheet is not None]


def great_sheets(seed):
    """Some open sheets of great tables."""
    chance = random.Random(seed)
    found = []
    for least, most in ((-10 ** 6, -1), (-1000, 10), (-3, 0), (-100, 1)):
        for share in (2, 4, 12):
            for batches in ((1,), (2, 1), (1, 1, 1)):
                table = great_table(chance, least, most, 40)
                sheet = Sheet(table, random_times(chance, table, 10, share), batches)
                if is_sheet(sheet):
                    found.append(sheet)
    return found


class SayTest(Checks):
    def test_deeds_that_can_be_done(self):
        for sheet in some_sheets(300, 751, 5, 7, -4, 2) + great_sheets(752):
            if not sheet.batches:
                self.refused("batches", say_deed, sheet, ())
                continue
            for lot in lots_of(missing_things(sheet.times), sheet.batches[0])[-9:]:
                deed = say_deed(sheet, lot)
                self.assertEqual((deed[0], tuple(thing for thing, _ in deed[1])), ("say", lot))
                self.assertIs(is_deed(sheet, deed), True)
                self.assertEqual(deed[1], batch_times(sheet.table, sheet.times, sheet.batches, lot))

    def test_never_refused_within_the_bounds(self):
        # times between -10^8 and 10^8, weights between -1000 and 1000
        chance = random.Random(753)
        for table in small_tables(150, 7, 12, -1000, 400, seed=753):
            times = tuple(chance.choice((None, None, -10 ** 8, 10 ** 8, 0)) for _ in table.things)
            for batches in ((1,), (3,), (1, 1)):
                sheet = Sheet(table, times, batches)
                if is_sheet(sheet):
                    for lot in lots_of(missing_things(times), batches[0])[-4:]:
                        deed = say_deed(sheet, lot)
                        self.assertIs(is_deed(sheet, deed), True)
                    for thing in missing_things(times):
                        for wish in (-10 ** 8, 0, 10 ** 8):
                            self.assertIs(is_deed(sheet, hour_deed(sheet, thing, wish)), True)

    def test_times_beyond(self):
        table = Table(("a", "b", "c"), ((0, 1, 10), (2, 0, 10)))
        late = Sheet(table, (BOUND, None, None), (1, 1))
        self.refused("time", say_deed, late, (1,))
        self.assertEqual(is_deed(late, say_deed(late, (2,))), True)
        early = Sheet(table, (-BOUND, None, None), (2,))
        self.refused("time", say_deed, early, (2,))
        self.refused("time", say_deed, early, (1, 2))
        self.assertEqual(is_deed(early, say_deed(early, (1,))), True)
        # right times reach beyond, but not all of them: what is said can be done
        near = Sheet(Table(("a", "b"), ((1, 0, -10),)), (BOUND, None), (1,))
        self.assertIs(is_deed(near, say_deed(near, (1,))), True)

    def test_at_the_bounds(self):
        table = Table(("a", "b"), ((0, 1, 10), (1, 0, -10)))
        self.assertEqual(say_deed(Sheet(table, (BOUND - 10, None), (1,)), (1,)), ("say", ((1, BOUND),)))
        self.refused("time", say_deed, Sheet(table, (BOUND - 9, None), (1,)), (1,))
        self.assertEqual(say_deed(Sheet(table, (None, 10 - BOUND), (1,)), (0,)), ("say", ((0, -BOUND),)))
        self.refused("time", say_deed, Sheet(table, (None, 9 - BOUND), (1,)), (0,))

    def test_errors(self):
        sheet = said_on(row_sheet(5, (2, 1)), (0,), (0,))
        self.assertEqual(say_deed(sheet=sheet, things=()), ("say", ()))
        for things in odd_values() + [(0,), (1, 2, 3), (2, 1), (1, 1), (5,), (-1,), [1], 1, (True,), (1.0,), ("b",),
                                      ((1,),), (None,), (Sour(),), (Yes(),)]:
            self.refused("things", say_deed, sheet, things)
            self.refused("batches", say_deed, row_sheet(5, ()), things)
        # things ahead of times
        late = Sheet(Table(("a", "b"), ((0, 1, 1),)), (BOUND, None), (1,))
        self.refused("things", say_deed, late, (0,))


class HourTest(Checks):
    def test_the_nearest_time(self):
        for sheet in some_sheets(200, 754, 5, 7, -4, 2) + great_sheets(755):
            for thing in missing_things(sheet.times) if sheet.batches else ():
                least, greatest = hours_for(sheet.table, sheet.times, sheet.batches[1:], thing)
                ends = [end for end in (least, greatest) if end is not None]
                for wish in [-10 ** 8, -5, 0, 7, 10 ** 8] + [end + by for end in ends for by in (-1, 0, 1)]:
                    nearest = wish
                    if least is not None:
                        nearest = max(nearest, least)
                    if greatest is not None:
                        nearest = min(nearest, greatest)
                    deed = hour_deed(sheet, thing, wish)
                    self.assertEqual(deed, ("say", ((thing, nearest),)))
                    self.assertIs(is_deed(sheet, deed), True)
                    # no other integer that is nearer, or as near, can be said
                    for other in {wish, 2 * wish - nearest, nearest + (1 if wish > nearest else -1)} - {nearest}:
                        if abs(other - wish) <= abs(nearest - wish):
                            self.assertIs(is_deed(sheet, ("say", ((thing, other),))), False)

    def test_times_beyond(self):
        table = Table(("a", "b"), ((0, 1, 10),))
        sheet = Sheet(table, (BOUND - 10, None), (1,))
        self.assertEqual(hour_deed(sheet, 1, 0), ("say", ((1, BOUND),)))
        self.assertEqual(hour_deed(sheet, 1, BOUND), ("say", ((1, BOUND),)))
        self.refused("time", hour_deed, sheet, 1, BOUND + 1)
        self.refused("time", hour_deed, Sheet(table, (BOUND - 9, None), (1,)), 1, 0)
        free = new_sheet(table, (1,))
        for wish in (BOUND, -BOUND):
            self.assertEqual(hour_deed(free, 0, wish), ("say", ((0, wish),)))
        for wish in (BOUND + 1, -BOUND - 1, 10 ** 30, -10 ** 30):
            self.refused("time", hour_deed, free, 0, wish)
        # the wish may lie beyond if the hour does not
        tight = Sheet(Table(("a", "b"), ((0, 1, 1), (1, 0, -3))), (0, None), (1,))
        self.assertEqual(hour_deed(sheet=tight, thing=1, wish=10 ** 30), ("say", ((1, 3),)))
        self.assertEqual(hour_deed(tight, 1, -10 ** 30), ("say", ((1, 1),)))

    def test_errors(self):
        sheet = said_on(row_sheet(5, (2, 1)), (0,), (0,))
        for thing in odd_values() + NO_INTEGERS + [0, 5, -1, 10 ** 400]:
            for wish in (0, 10 ** 30):
                self.refused("thing", hour_deed, sheet, thing, wish)
                self.refused("batches", hour_deed, row_sheet(5, ()), thing, wish)
        self.refused("batches", hour_deed, row_sheet(5, ()), 0, 0)


class MoreTest(Checks):
    def judge(self, sheet):
        most = most_more(sheet)
        for size in {1, 2, most - 1, most, most + 1, 50, 100} - {0, -1, 101}:
            self.assertIs(is_deed(sheet, ("more", size)), size <= most)
        return most

    def test_at_their_ends_and_one_beyond(self):
        told = [self.judge(sheet) for sheet in some_sheets(400, 756, 6, 8, -4, 2) + great_sheets(757)]
        for most in (0, 1, 2, 100):
            self.assertIn(most, told)

    def test_rings_and_rows(self):
        for count in range(2, 13):
            table = Table(tuple(LETTERS[:count]), ring_of(count, 1))
            self.assertEqual(self.judge(Sheet(table, (None,) * count, ())), count - 1)
            # N is to be less than the ties of the row
            sheet = row_sheet(count, ())
            if count > 2:
                short = said_on(sheet, (0, count - 1), (0, count - 2))
                self.assertEqual(self.judge(short), count - 3)
            self.assertEqual(self.judge(sheet), 100)
        self.assertEqual(most_more(sheet=row_sheet(3, (1,))), 100)

    def test_60_batches(self):
        self.assertEqual(self.judge(row_sheet(3, (100,) * 59)), 100)
        self.assertEqual(self.judge(row_sheet(3, (100,) * 60)), 0)
        self.assertEqual(self.judge(row_sheet(3, (1,) * 60)), 0)


class TieTest(Checks):
    def judge(self, sheet, one, other):
        most = heaviest_tie(sheet, one, other)
        if most is None:
            self.assertIs(is_deed(sheet, ("tie", (one, other, -10 ** 6))), False)
            return most
        for weight in {-10 ** 6, -3, 0, 2, most - 1, most, most + 1, 10 ** 6}:
            if abs(weight) <= 10 ** 6:
                self.assertIs(is_deed(sheet, ("tie", (one, other, weight))), weight <= most)
        return most

    def test_at_their_ends_and_one_beyond(self):
        for sheet in some_sheets(80, 758, 4, 7, -4, 2) + great_sheets(759)[::4]:
            things = range(min(4, len(sheet.table.things)))
            for one in things:
                for other in things:
                    if one != other:
                        self.judge(sheet, one, other)

    def test_bounds(self):
        table = Table(("a", "b", "c"), ())
        free = Sheet(table, (None,) * 3, ())
        self.assertEqual(self.judge(free, 0, 1), 10 ** 6)
        far = Sheet(table, (10 ** 9, -10 ** 9, None), ())
        self.assertIsNone(self.judge(far, 0, 1))
        self.assertEqual(self.judge(far, 1, 0), 10 ** 6)
        for apart, told in ((10 ** 6, 10 ** 6), (10 ** 6 + 1, 10 ** 6), (10 ** 6 - 1, 10 ** 6 - 1),
                            (-10 ** 6, -10 ** 6), (-10 ** 6 - 1, None), (-10 ** 6 + 1, -10 ** 6 + 1)):
            self.assertEqual(self.judge(Sheet(table, (5, 5 + apart, None), ()), 0, 1), told)
        self.assertEqual(heaviest_tie(sheet=free, one=2, other=0), 10 ** 6)

    def test_errors(self):
        sheet = row_sheet(3)
        full = Sheet(Table(("a", "b"), ((0, 1, 1),) * 60), (None, None), ())
        for one, other in [(0, 0), (0, 3), (-1, 0), (3, 0), (2, 2)]:
            self.refused("things", heaviest_tie, sheet, one, other)
        for value in odd_values() + NO_INTEGERS + [5, -1, 10 ** 400]:
            for told in (sheet, full):
                self.refused("things", heaviest_tie, told, value, 1)
                self.refused("things", heaviest_tie, told, 1, value)
        self.refused("size", heaviest_tie, full, 0, 1)
        self.refused("size", heaviest_tie, full, 1, 0)
        self.refused("things", heaviest_tie, full, 1, 1)
        almost = Sheet(Table(("a", "b"), ((0, 1, 1),) * 59), (None, None), ())
        self.assertEqual(heaviest_tie(almost, 0, 1), 10 ** 6)
