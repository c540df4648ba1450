"""Point 13: texts, shown."""

import random
import unittest

from saidatonce.lexer import marks_in
from saidatonce.printer import show_batches, show_day, show_lot, show_table, show_times
from saidatonce.tables import Table
from tests.odd import small_tables
from tests.test_days import random_day

TABLE = Table(("cup", "jam", "tea"), ((2, 0, -3), (0, 2, 12)))


class ShownTest(unittest.TestCase):
    def test_the_example_of_the_document(self):
        self.assertEqual(show_table(TABLE), "jam\ntea cup -3\ncup tea 12")
        self.assertEqual(show_day(TABLE, (((0, -5), (2, 7)), ((1, 0),))), "cup -5 tea 7\njam 0")
        self.assertEqual(show_batches((1, 12)), "1 12")

    def test_tables(self):
        self.assertEqual(show_table(Table(("a",), ())), "a")
        self.assertEqual(show_table(Table(("a", "b", "c"), ())), "a\nb\nc")
        self.assertEqual(show_table(Table(("a", "b", "c", "d"), ((1, 3, 0),))), "a\nc\nb d 0")
        self.assertEqual(show_table(Table(("a", "b"), ((1, 0, -7), (0, 1, 7), (1, 0, -7)))), "b a -7\na b 7\nb a -7")
        self.assertEqual(show_table(table=Table(("a", "b"), ((0, 1, -10 ** 6),))), "a b -1000000")

    def test_times(self):
        self.assertEqual(show_times(TABLE, (None, None, None)), "")
        self.assertEqual(show_times(TABLE, (-5, None, 7)), "cup -5\ntea 7")
        self.assertEqual(show_times(TABLE, (0, -10 ** 9, 10 ** 9)), "cup 0\njam -1000000000\ntea 1000000000")
        self.assertEqual(show_times(table=TABLE, times=(None, 10 ** 12, None)), "jam 1000000000000")

    def test_days(self):
        self.assertEqual(show_day(TABLE, ()), "")
        self.assertEqual(show_day(TABLE, (((2, 0),),)), "tea 0")
        self.assertEqual(show_day(TABLE, (((2, 0),), ((0, 1), (1, -1)))), "tea 0\ncup 1 jam -1")
        self.assertEqual(show_day(table=TABLE, day=(((0, 1), (1, 2), (2, 3)),)), "cup 1 jam 2 tea 3")

    def test_batches(self):
        self.assertEqual(show_batches(()), "")
        self.assertEqual(show_batches((100,)), "100")
        self.assertEqual(show_batches(batches=(3, 1, 4) * 20), " ".join(["3 1 4"] * 20))

    def test_lots(self):
        self.assertEqual(show_lot(TABLE, ()), "")
        self.assertEqual(show_lot(TABLE, (1,)), "jam")
        self.assertEqual(show_lot(table=TABLE, lot=(0, 1, 2)), "cup jam tea")


class FormTest(unittest.TestCase):
    def judge(self, text):
        self.assertIsInstance(text, str)
        for line in text.split("\n"):
            self.assertEqual(line, line.strip())
            self.assertNotIn("  ", line)
            self.assertNotIn("- ", line)
            self.assertTrue(line or not text)
        marks = marks_in(text)
        for (line, at, mark), (behind, begin, other) in zip(marks, marks[1:]):
            if line == behind:
                self.assertEqual(begin - at - len(mark), int(mark != "-" and other != "\n"))

    def test_blanks_and_lines(self):
        chance = random.Random(15)
        for table in small_tables(100, 6, 8, -20, 20, seed=15):
            self.judge(show_table(table))
            self.judge(show_times(table, tuple(chance.choice((None, chance.randint(-9, 9))) for _ in table.things)))
            self.judge(show_day(table, random_day(chance, table)))
            self.judge(show_lot(table, tuple(range(len(table.things)))))

    def test_how_many_marks(self):
        for table in small_tables(100, 6, 8, -20, 20, seed=16):
            tied = {thing for tie in table.ties for thing in tie[:2]}
            lines = len(table.things) - len(tied) + len(table.ties)
            marks = len(table.things) - len(tied) + sum(3 + (tie[2] < 0) for tie in table.ties)
            self.assertEqual(len(marks_in(show_table(table))), marks + lines - 1)


if __name__ == "__main__":
    unittest.main()
