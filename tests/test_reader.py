"""Points 11 and 12: texts, read and completed; points 12 and 13: read again, what is shown is the same."""

import itertools
import random
import re
import unittest

from saidatonce.errors import InvalidText
from saidatonce.lexer import marks_in
from saidatonce.printer import show_batches, show_day, show_lot, show_table, show_times
from saidatonce.reader import (
    completed_day, completed_table, completed_times, read_batches, read_day, read_lot, read_table, read_times,
)
from saidatonce.tables import Table
from tests.odd import odd_values, small_tables
from tests.test_days import random_day

TABLE = Table(("cup", "jam", "tea"), ((2, 0, -3), (0, 2, 12)))
FAR = 10 ** 9
LETTERS = "abcdefghijklm"
TWELVE = "\n".join(LETTERS[:12])
SIXTY = "\n".join(["a b 1"] * 60)

# each call takes a text alone; the first five read, the others complete
READERS = {
    "table": read_table,
    "times": lambda text: read_times(TABLE, text),
    "day": lambda text: read_day(TABLE, text),
    "batches": read_batches,
    "lot": lambda text: read_lot(TABLE, text),
}
COMPLETERS = {
    "table": completed_table,
    "times": lambda text: completed_times(TABLE, text),
    "day": lambda text: completed_day(TABLE, text),
}


def only_marks(text):
    return [mark for _, _, mark in marks_in(text)]


# A slow way: whole texts are told by patterns, and a text goes on if some marks behind it make a whole one.

NUMBER = "(?:0|[1-9][0-9]*)"
INTEGER = "(?:0|(?:- )?[1-9][0-9]*)"
NAME = "[a-z]{1,6}"


def integers_in(line):
    return [int(told.replace(" ", "")) for told in re.findall("(?:- )?[0-9]+", line)]


def is_whole(kind, marks):
    """Whether marks are those of a whole text."""
    lines = [line.strip() for line in " ".join(marks).split("\n")]
    if kind in ("batches", "lot"):
        return len(lines) == 1 and is_whole_line(kind, lines[0])
    full = [line for line in lines if line]
    if kind == "table":
        names = set(re.findall("[a-z]+", " ".join(full)))
        ties = [line for line in full if re.fullmatch(f"({NAME}) (?!\\1 ){NAME} {INTEGER}", line)]
        lone = [line for line in full if re.fullmatch(NAME, line)]
        return len(ties) + len(lone) == len(full) and 1 <= len(names) <= 12 and len(ties) <= 60 and all(
            abs(weight) <= 10 ** 6 for line in ties for weight in integers_in(line)
        )
    pair = f"(?:cup|jam|tea) {INTEGER}"
    pattern = pair if kind == "times" else f"{pair}(?: {pair})*"
    names = re.findall("[a-z]+", " ".join(full))
    return all(re.fullmatch(pattern, line) for line in full) and len(set(names)) == len(names) and all(
        abs(time) <= FAR for line in full for time in integers_in(line)
    )


def is_whole_line(kind, line):
    items = line.split()
    if kind == "batches":
        return len(items) <= 60 and all(re.fullmatch(NUMBER, item) and 1 <= int(item) <= 100 for item in items)
    return len(set(items)) == len(items) and all(item in TABLE.things for item in items)


def goes_on(kind, marks):
    """Whether some whole text begins with marks; two more are always enough."""
    more = ["0", "1", "-", "\n", "a", "b", "cup", "jam", "tea"]
    return any(
        is_whole(kind, marks + list(behind)) for size in range(3) for behind in itertools.product(more, repeat=size)
    )


class ReaderCase(unittest.TestCase):
    def fault(self, kind, text, line, at, completable=False):
        with self.assertRaises(InvalidText) as caught:
            READERS[kind](text)
        self.assertEqual((caught.exception.line, caught.exception.at), (line, at), text[-40:])
        if kind in COMPLETERS and not completable:
            with self.assertRaises(InvalidText) as caught:
                COMPLETERS[kind](text)
            self.assertEqual((caught.exception.line, caught.exception.at), (line, at))

    def lacks(self, kind, text):
        """The text is refused at its end, and can be completed."""
        lines = text.split("\n")
        self.fault(kind, text, len(lines) - 1, len(lines[-1]), True)
        self.completes(kind, text)

    def completes(self, kind, text):
        whole = COMPLETERS[kind](text)
        self.assertIsInstance(whole, str)
        self.assertTrue(whole.startswith(text))
        marks = only_marks(text)
        self.assertEqual(only_marks(whole)[:len(marks)], marks)
        READERS[kind](whole)


class TableTest(ReaderCase):
    def test_the_example_of_the_document(self):
        table = read_table("tea cup -3\n\njam\ncup tea 12")
        self.assertEqual((table.things, table.ties), (("cup", "jam", "tea"), ((2, 0, -3), (0, 2, 12))))

    def told(self, text, things, ties):
        table = read_table(text)
        self.assertIsInstance(table, Table)
        self.assertEqual((table.things, table.ties), (things, ties))
        self.completes("table", text)

    def test_things_alone(self):
        self.told("a", ("a",), ())
        self.told("b\na", ("a", "b"), ())
        self.told("a\na\na", ("a",), ())
        self.told("a b 1\na\nc\nb", ("a", "b", "c"), ((0, 1, 1),))
        self.told("abcdef", ("abcdef",), ())

    def test_the_same_tie_again(self):
        self.told("a b 1\na b 1\nb a 0\na b 2", ("a", "b"), ((0, 1, 1), (0, 1, 1), (1, 0, 0), (0, 1, 2)))

    def test_blanks_and_empty_lines(self):
        self.told("  \n\n a   b-5 \n  \n", ("a", "b"), ((0, 1, -5),))
        self.told("a b1\n", ("a", "b"), ((0, 1, 1),))
        self.told("\n\n\na", ("a",), ())
        self.told("a b -   7", ("a", "b"), ((0, 1, -7),))

    def test_weights(self):
        for weight in (0, 1, -1, 9, 10, 999999, 10 ** 6, -10 ** 6):
            self.told("a b %d" % weight, ("a", "b"), ((0, 1, weight),))

    def test_the_bounds(self):
        self.assertEqual(read_table(TWELVE).things, tuple(LETTERS[:12]))
        self.assertEqual(len(read_table(SIXTY).ties), 60)
        self.assertEqual(len(read_table(SIXTY + "\na\nb\n" + TWELVE).ties), 60)
        self.assertEqual(read_table(TWELVE + "\nl a 5").ties, ((11, 0, 5),))
        self.assertEqual(len(read_table("a\n" * 10000).things), 1)

    def test_a_13th_thing(self):
        self.fault("table", TWELVE + "\nm", 12, 0)
        self.fault("table", TWELVE + "\n\na m 5", 13, 2)
        self.fault("table", TWELVE[:-2] + "\nl m 5", 11, 2)
        self.fault("table", TWELVE + "\nm m", 12, 0)

    def test_the_second_name_behind_60_ties(self):
        self.fault("table", SIXTY + "\na b 1", 60, 2)
        self.fault("table", SIXTY + "\na\nb c", 61, 2)
        self.completes("table", SIXTY + "\na")

    def test_a_newline_behind_two_names(self):
        self.fault("table", "a b\n1", 0, 3)
        self.fault("table", "c\na b  \n", 1, 5)
        self.fault("table", "a b -\n", 0, 5)

    def test_names(self):
        self.fault("table", "abcdefg", 0, 0)
        self.fault("table", "a abcdefg 5", 0, 2)
        self.fault("table", "a\n  abcdefg\n", 1, 2)
        self.fault("table", "a a 5", 0, 2)
        self.fault("table", "a b 1\nc c", 1, 2)
        self.fault("table", "a" * 10000, 0, 0)

    def test_signs_that_no_text_has(self):
        for sign in "ABZ_.,:+*/()[]{}#\"'!~^%$&<>=?@\\|`;":
            self.fault("table", sign, 0, 0)
            self.fault("table", "a\n " + sign + "a", 1, 1)
            self.fault("table", "a" + sign, 0, 1)
            self.fault("table", "a b" + sign + "1", 0, 3)
            self.fault("table", "a b 1" + sign, 0, 5)

    def test_numerals(self):
        for wrong in ("01", "00", "007", "1000001", "9999999", "10000000", "9" * 5000, "0" * 5000, "x", "a", "--"):
            self.fault("table", "a b " + wrong, 0, 4 if wrong != "--" else 5)
            self.fault("table", "a b -" + wrong, 0, 5)
        self.fault("table", "a b -0", 0, 5)
        self.fault("table", "a b - 0", 0, 6)
        self.fault("table", "a 5", 0, 2)
        self.fault("table", "5", 0, 0)
        self.fault("table", "-", 0, 0)
        self.fault("table", "a -", 0, 2)
        self.fault("table", "a b 1 2", 0, 6)
        self.fault("table", "a b 1-2", 0, 5)
        self.fault("table", "a b 1c", 0, 5)
        self.fault("table", "a b +1", 0, 4)

    def test_the_end(self):
        for text in ("", " ", "\n", "\n\n  ", "a b", "a b ", "a b -", "a b - ", "c\na b", "c\n\n a b -  "):
            self.lacks("table", text)

    def test_what_is_completed_ends_with_the_text(self):
        self.assertEqual(completed_table("a b 1"), "a b 1")
        self.assertEqual(completed_table(text="\n a\n"), "\n a\n")


class TimesTest(ReaderCase):
    def test_the_example_of_the_document(self):
        self.assertEqual(read_times(TABLE, "tea 7\ncup -5"), (-5, None, 7))

    def test_times(self):
        for text, times in (
            ("", (None,) * 3), ("  \n\n ", (None,) * 3), ("jam 0", (None, 0, None)), ("\n\ntea7\n\n", (None, None, 7)),
            ("cup 1000000000\njam -1000000000", (FAR, -FAR, None)), ("tea - 3\ncup 1\njam 2", (1, 2, -3)),
        ):
            self.assertEqual(read_times(TABLE, text), times)
            self.assertIsInstance(read_times(TABLE, text), tuple)
            self.completes("times", text)
        self.assertEqual(read_times(table=TABLE, text="tea 7"), (None, None, 7))

    def test_they_may_break_ties(self):
        self.assertEqual(read_times(TABLE, "cup 0\ntea 0"), (0, None, 0))

    def test_a_thing_that_has_a_time(self):
        self.fault("times", "tea 7\ntea 7", 1, 0)
        self.fault("times", "tea 7\ncup 1\njam 1\n  cup", 3, 2)

    def test_other_marks(self):
        self.fault("times", "te 7", 0, 0)
        self.fault("times", "teatea 7", 0, 0)
        self.fault("times", "tea cup", 0, 4)
        self.fault("times", "tea\n7", 0, 3)
        self.fault("times", "tea -\n7", 0, 5)
        self.fault("times", "7", 0, 0)
        self.fault("times", "-", 0, 0)
        self.fault("times", "tea 7 cup 8", 0, 6)
        self.fault("times", "tea 7 8", 0, 6)
        self.fault("times", "tea 7-", 0, 5)
        self.fault("times", "tea 7\ncup 8 -", 1, 6)
        self.fault("times", "TEA 7", 0, 0)
        self.fault("times", "tea: 7", 0, 3)

    def test_numerals(self):
        for wrong in ("00", "01", "1000000001", "9999999999", "10000000000", "9" * 5000):
            self.fault("times", "tea " + wrong, 0, 4)
            self.fault("times", "tea -" + wrong, 0, 5)
        self.fault("times", "tea -0", 0, 5)
        self.fault("times", "tea --1", 0, 5)

    def test_the_end(self):
        for text in ("tea", "tea ", "tea -", "tea - ", "cup 1\n\ntea", "\ncup"):
            self.lacks("times", text)


class DayTest(ReaderCase):
    def test_the_example_of_the_document(self):
        self.assertEqual(read_day(TABLE, "tea 7 cup -5\n\njam 0"), (((0, -5), (2, 7)), ((1, 0),)))

    def test_days(self):
        for text, day in (
            ("", ()), (" \n\n", ()), ("tea 7", (((2, 7),),)), ("tea 7\ncup 8", (((2, 7),), ((0, 8),))),
            ("tea 7 cup 8\n", (((0, 8), (2, 7)),)), ("tea7jam-2cup0", (((0, 0), (1, -2), (2, 7)),)),
            ("\n\ncup 1\n  \n\njam 2 tea 3\n", (((0, 1),), ((1, 2), (2, 3)))),
        ):
            self.assertEqual(read_day(TABLE, text), day)
            self.completes("day", text)
        self.assertEqual(read_day(table=TABLE, text="jam 1000000000"), (((1, FAR),),))

    def test_a_thing_that_has_a_time(self):
        self.fault("day", "tea 7 tea 8", 0, 6)
        self.fault("day", "tea 7\ncup 1 tea 8", 1, 6)
        self.fault("day", "tea 7 cup 1 jam 2 jam", 0, 18)

    def test_other_marks(self):
        self.fault("day", "tea 7 8", 0, 6)
        self.fault("day", "tea 7 -8", 0, 6)
        self.fault("day", "tea cup", 0, 4)
        self.fault("day", "tea 7 cup\n", 0, 9)
        self.fault("day", "tea 7 cu 8", 0, 6)
        self.fault("day", "tea 7, cup 8", 0, 5)
        self.fault("day", "tea 07", 0, 4)
        self.fault("day", "tea 7 cup -0", 0, 11)
        self.fault("day", "tea -1000000001", 0, 5)

    def test_the_end(self):
        for text in ("tea", "tea 7 cup", "tea 7 cup -", "tea 7\ncup", "tea 7 cup 1\n\n jam  "):
            self.lacks("day", text)


class BatchesTest(ReaderCase):
    def test_batches(self):
        for text, batches in (("", ()), ("  ", ()), ("1", (1,)), (" 1 12  100 ", (1, 12, 100)), ("1 " * 60, (1,) * 60)):
            self.assertEqual(read_batches(text), batches)
        self.assertEqual(read_batches(text="7"), (7,))

    def test_other_marks(self):
        self.fault("batches", "0", 0, 0)
        self.fault("batches", "1 101", 0, 2)
        self.fault("batches", "1 01", 0, 2)
        self.fault("batches", "1 -1", 0, 2)
        self.fault("batches", "\n", 0, 0)
        self.fault("batches", "1\n", 0, 1)
        self.fault("batches", "1 \n2", 0, 2)
        self.fault("batches", "1,2", 0, 1)
        self.fault("batches", "1a", 0, 1)
        self.fault("batches", "9" * 5000, 0, 0)
        self.fault("batches", "1 " * 60 + "1", 0, 120)
        self.fault("batches", "1 " * 61 + "x", 0, 120)


class LotTest(ReaderCase):
    def test_lots(self):
        for text, lot in (("", ()), ("   ", ()), ("tea", (2,)), ("tea cup", (0, 2)), (" jam tea  cup ", (0, 1, 2))):
            self.assertEqual(read_lot(TABLE, text), lot)
        self.assertEqual(read_lot(table=TABLE, text="jam"), (1,))

    def test_other_marks(self):
        self.fault("lot", "tea tea", 0, 4)
        self.fault("lot", "tea cup tea jam", 0, 8)
        self.fault("lot", "te", 0, 0)
        self.fault("lot", "teacup", 0, 0)
        self.fault("lot", "tea\n", 0, 3)
        self.fault("lot", "\ntea", 0, 0)
        self.fault("lot", "tea, cup", 0, 3)
        self.fault("lot", "tea 1", 0, 4)
        self.fault("lot", "-", 0, 0)


class SlowTest(ReaderCase):
    """Texts of random marks, against the slow way."""

    POOLS = {
        "table": ["a", "b", "c", "abcdefg", "0", "1", "01", "12", "1000000", "1000001", "-", "-", "\n", "\n", "."],
        "times": ["cup", "jam", "tea", "cup", "jam", "tea", "x", "0", "5", "07", "1000000001", "-", "-", "\n", "\n"],
        "day": ["cup", "jam", "tea", "cup", "jam", "tea", "x", "0", "5", "07", "1000000000", "-", "-", "\n", "\n", ","],
        "batches": ["1", "2", "100", "101", "0", "00", "\n", "-", "a", "12", "7"],
        "lot": ["cup", "jam", "tea", "cup", "jam", "tea", "x", "\n", "1"],
    }

    def judge(self, kind, text):
        marks = marks_in(text)
        told = [mark for _, _, mark in marks]
        for at in range(1, len(told) + 1):
            if not goes_on(kind, told[:at]):
                line, place, _ = marks[at - 1]
                self.fault(kind, text, line, place)
                return
        if not is_whole(kind, told):
            self.lacks(kind, text)
            return
        READERS[kind](text)
        if kind in COMPLETERS:
            self.completes(kind, text)

    def test_random_marks(self):
        chance = random.Random(11)
        for kind, pool in self.POOLS.items():
            for _ in range(400):
                marks = chance.choices(pool, k=chance.randint(0, 9))
                self.judge(kind, chance.choice((" ", " ", "", "  ")).join(marks))

    def test_marks_that_go_on(self):
        chance = random.Random(12)
        for kind, pool in self.POOLS.items():
            for _ in range(16):
                marks = []
                for _ in range(9):
                    marks.append(chance.choice([mark for mark in pool if goes_on(kind, marks + [mark])] or ["."]))
                self.judge(kind, " ".join(marks))


class AnyValueTest(ReaderCase):
    def test_what_is_no_string(self):
        for value in odd_values():
            if not isinstance(value, str):
                for call in list(READERS.values()) + list(COMPLETERS.values()):
                    with self.assertRaises(InvalidText) as caught:
                        call(value)
                    self.assertEqual((caught.exception.line, caught.exception.at), (-1, -1))

    def test_long_texts(self):
        self.assertEqual(read_day(TABLE, " " * 100000 + "\n" * 100000 + "tea 1"), (((2, 1),),))
        self.fault("times", "\n" * 100000 + " " * 1000 + "?", 100000, 1000)
        self.lacks("times", "\n" * 1000 + "tea" + " " * 1000)


class AgainTest(unittest.TestCase):
    def test_tables(self):
        for table in small_tables(150, 6, 9, -20, 20, seed=13):
            self.assertEqual(read_table(show_table(table)), table)
        great = Table(tuple("abcdefghijkl"), tuple((at % 12, (at + 5) % 12, 10 ** 6 - at) for at in range(60)))
        self.assertEqual(read_table(show_table(great)), great)

    def test_times_days_batches_and_lots(self):
        chance = random.Random(14)
        for table in small_tables(150, 6, 5, seed=14):
            times = tuple(chance.choice((None, chance.randint(-FAR, FAR))) for _ in table.things)
            self.assertEqual(read_times(table, show_times(table, times)), times)
            day = random_day(chance, table, FAR)
            self.assertEqual(read_day(table, show_day(table, day)), day)
            lot = tuple(thing for thing in range(len(table.things)) if chance.randrange(2))
            self.assertEqual(read_lot(table, show_lot(table, lot)), lot)
            batches = tuple(chance.randint(1, 100) for _ in range(chance.randint(0, 60)))
            self.assertEqual(read_batches(show_batches(batches)), batches)


if __name__ == "__main__":
    unittest.main()
