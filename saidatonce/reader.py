"""Texts of tables, times, days, batches and lots, read and completed."""

from saidatonce.errors import InvalidText
from saidatonce.kinds import is_name
from saidatonce.lexer import marks_in
from saidatonce.tables import MOST_THINGS, MOST_TIES, MOST_WEIGHT, Table
from saidatonce.times import MOST_BATCHES, MOST_SIZE, MOST_TIME, nothing_said

NEWLINE = "\n"
MINUS = "-"


def numeral_value(mark, most):
    """The number that a mark tells, or None if it is no numeral of a number up to most."""
    # Python refuses to read numerals of some thousand digits
    if not "0" <= mark[0] <= "9" or len(mark) > len(str(most)):
        return None
    if mark[0] == "0" and mark != "0":
        return None
    if int(mark) > most:
        return None
    return int(mark)


class IntegerReading:
    """Reads the marks of an integer; `value` is None until it is whole."""

    def __init__(self, most):
        self.most = most
        self.minus = False
        self.value = None

    def takes(self, mark):
        """Whether a mark can be the next one of the integer."""
        if mark == MINUS and not self.minus:
            self.minus = True
            return True
        number = numeral_value(mark, self.most)
        if number is None or self.minus and number == 0:
            return False
        self.value = -number if self.minus else number
        return True

    def lacks(self):
        """What makes the integer whole, whatever marks of it were read."""
        if self.minus:
            return "1"
        return " 0"


class TableReading:
    """Reads the marks of a table."""

    def __init__(self):
        self.names = {}
        self.ties = []
        # what is in the line so far: names, and the weight behind the second one
        self.front = []
        self.weight = None

    def takes(self, mark):
        """Whether a mark can be the next one."""
        if self.weight is not None and self.weight.value is None:
            return self.takes_weight(mark)
        if mark == NEWLINE:
            self.front = []
            self.weight = None
            return True
        return self.weight is None and self.takes_name(mark)

    def takes_name(self, mark):
        """Whether a mark can be the next one as a name."""
        if not is_name(mark) or mark in self.front:
            return False
        if mark not in self.names and len(self.names) == MOST_THINGS:
            return False
        if self.front:
            if len(self.ties) == MOST_TIES:
                return False
            self.weight = IntegerReading(MOST_WEIGHT)
        self.names[mark] = True
        self.front = self.front + [mark]
        return True

    def takes_weight(self, mark):
        """Whether a mark can be the next one as part of a weight."""
        if not self.weight.takes(mark):
            return False
        if self.weight.value is not None:
            self.ties.append((self.front[0], self.front[1], self.weight.value))
        return True

    def lacks(self):
        """What makes the text whole, "" if nothing does."""
        if self.weight is not None and self.weight.value is None:
            return self.weight.lacks()
        if not self.names:
            return "a"
        return ""

    def told_table(self):
        """The table that was read, if nothing lacks."""
        things = sorted(self.names)
        ties = [(things.index(one), things.index(other), weight) for one, other, weight in self.ties]
        return Table(tuple(things), tuple(ties))


class PairsReading:
    """Reads the marks of times, with one pair in a line, or of a day, with one or more."""

    def __init__(self, table, single):
        self.things = table.things
        self.single = single
        self.times = nothing_said(table)
        self.batches = []
        self.batch = []
        self.thing = None
        self.time = None

    def takes(self, mark):
        """Whether a mark can be the next one."""
        if self.thing is not None:
            return self.takes_time(mark)
        if mark == NEWLINE:
            self.end_batch()
            return True
        if self.single and self.batch:
            return False
        return self.takes_thing(mark)

    def takes_thing(self, mark):
        """Whether a mark can be the next one as the name of a thing."""
        if mark not in self.things or self.times[self.things.index(mark)] is not None:
            return False
        self.thing = self.things.index(mark)
        self.time = IntegerReading(MOST_TIME)
        return True

    def takes_time(self, mark):
        """Whether a mark can be the next one as part of a time."""
        if not self.time.takes(mark):
            return False
        time = self.time.value
        if time is not None:
            self.times = self.times[:self.thing] + (time,) + self.times[self.thing + 1:]
            self.batch.append((self.thing, time))
            self.thing = None
        return True

    def end_batch(self):
        """Begins a new line."""
        if self.batch:
            self.batches.append(tuple(sorted(self.batch)))
        self.batch = []

    def lacks(self):
        """What makes the text whole, "" if nothing does."""
        if self.thing is not None:
            return self.time.lacks()
        return ""

    def told_day(self):
        """The day that was read, if nothing lacks."""
        self.end_batch()
        return tuple(self.batches)


def marks_of(text):
    """The marks of any value, which is no text if it is no string."""
    if not isinstance(text, str):
        raise InvalidText(-1, -1)
    return marks_in(text)


def read_marks(reading, text):
    """Reads all marks of any value."""
    for line, at, mark in marks_of(text):
        if not reading.takes(mark):
            raise InvalidText(line, at)


def read_whole(reading, text):
    """Reads any value, of which nothing may lack."""
    read_marks(reading, text)
    if reading.lacks() != "":
        lines = text.split(NEWLINE)
        raise InvalidText(len(lines) - 1, len(lines[-1]))


def completed(reading, text):
    """A whole text that begins with any value."""
    read_marks(reading, text)
    return text + reading.lacks()


def read_table(text):
    """The table that a text tells."""
    reading = TableReading()
    read_whole(reading, text)
    return reading.told_table()


def read_times(table, text):
    """The times that a text tells."""
    reading = PairsReading(table, True)
    read_whole(reading, text)
    return reading.times


def read_day(table, text):
    """The day that a text tells."""
    reading = PairsReading(table, False)
    read_whole(reading, text)
    return reading.told_day()


def read_batches(text):
    """The batches that a text tells."""
    batches = []
    for line, at, mark in marks_of(text):
        size = numeral_value(mark, MOST_SIZE)
        if size is None or size == 0 or len(batches) == MOST_BATCHES:
            raise InvalidText(line, at)
        batches.append(size)
    return tuple(batches)


def read_lot(table, text):
    """The lot that a text tells."""
    lot = []
    for line, at, mark in marks_of(text):
        if mark not in table.things or table.things.index(mark) in lot:
            raise InvalidText(line, at)
        lot.append(table.things.index(mark))
    return tuple(sorted(lot))


def completed_table(text):
    """Some text of a table that begins with any value."""
    return completed(TableReading(), text)


def completed_times(table, text):
    """Some text of times that begins with any value."""
    return completed(PairsReading(table, True), text)


def completed_day(table, text):
    """Some text of a day that begins with any value."""
    return completed(PairsReading(table, False), text)
