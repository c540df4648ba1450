"""The desk: an open sheet whose deeds are kept in a journal."""

from saidatonce.deeds import is_deed, sheet_after, sheet_after_all
from saidatonce.errors import Broken, InvalidTable, Refused
from saidatonce.journal import Journal
from saidatonce.promises import hour_deed, say_deed
from saidatonce.sheets import Sheet, is_sheet, new_sheet
from saidatonce.tables import Table

# A record has the octets of one value: None, an integer, a word or a tuple of values. The first octet tells which.
NOTHING = 0
FROM_0_ON = 1
BELOW_0 = 2
WORD = 3
TUPLE = 4

# an integer has so many octets behind the first one, the greatest places first
INTEGER_OCTETS = 4

LETTERS = "abcdefghijklmnopqrstuvwxyz"

# how deep the tuples of sheets and of deeds lie
DEEPEST = 3


def integer_octets(value):
    """The octets of an integer."""
    octets = []
    rest = abs(value)
    for _ in range(INTEGER_OCTETS):
        octets.append(rest % 256)
        rest = rest // 256
    octets.append(BELOW_0 if value < 0 else FROM_0_ON)
    return octets[::-1]


def value_octets(value):
    """The octets of a value."""
    if value is None:
        return [NOTHING]
    if isinstance(value, str):
        return [WORD, len(value)] + [LETTERS.index(sign) for sign in value]
    if isinstance(value, tuple):
        octets = [TUPLE, len(value)]
        for item in value:
            octets.extend(value_octets(item))
        return octets
    return integer_octets(value)


class OctetReader:
    """Octets that are read from the first one on."""

    def __init__(self, octets):
        self.octets = octets
        self.at = 0

    def take(self):
        """The next octet."""
        if self.at == len(self.octets):
            raise Broken("desk")
        self.at += 1
        return self.octets[self.at - 1]

    def take_integer(self):
        """The number of the next octets."""
        number = 0
        for _ in range(INTEGER_OCTETS):
            number = number * 256 + self.take()
        return number

    def take_word(self):
        """The word of the next octets."""
        letters = [self.take() for _ in range(self.take())]
        if not all([letter < len(LETTERS) for letter in letters]):
            raise Broken("desk")
        return "".join([LETTERS[letter] for letter in letters])

    def take_value(self, depth):
        """The value of the next octets, with tuples at most so deep."""
        kind = self.take()
        if kind == NOTHING:
            return None
        if kind == FROM_0_ON:
            return self.take_integer()
        if kind == BELOW_0:
            return -self.take_integer()
        if kind == WORD:
            return self.take_word()
        if kind != TUPLE or depth == 0:
            raise Broken("desk")
        return tuple([self.take_value(depth - 1) for _ in range(self.take())])


def record_of(value):
    """The record of a value."""
    return tuple(value_octets(value))


def value_of(record):
    """The value of a record."""
    value = OctetReader(record).take_value(DEEPEST)
    # one value has one record
    if record_of(value) != record:
        raise Broken("desk")
    return value


def sheet_record(sheet):
    """The record of a sheet."""
    return record_of((sheet.table.things, sheet.table.ties, sheet.times, sheet.batches))


def sheet_of(record):
    """The open sheet of a record."""
    value = value_of(record)
    if not isinstance(value, tuple) or len(value) != 4:
        raise Broken("desk")
    things, ties, times, batches = value
    try:
        table = Table(things, ties)
    except InvalidTable:
        raise Broken("desk") from None
    sheet = Sheet(table, times, batches)
    if not is_sheet(sheet):
        raise Broken("desk")
    return sheet


def deeds_of(sheet, records):
    """The deeds of records, one after another behind a sheet."""
    deeds = []
    for record in records:
        deed = value_of(record)
        if not is_deed(sheet, deed):
            raise Broken("desk")
        deeds.append(deed)
        sheet = sheet_after(sheet, deed)
    return tuple(deeds)


def has_said(deed):
    """Whether a deed has said a time."""
    return deed[0] == "say" and deed[1] != ()


class Desk:
    """The desk on a disk; `sheet` is the present one."""

    def __init__(self, disk):
        self.disk = disk
        self._journal = Journal(disk)
        # the first record is the sheet, each other one a deed
        records = self._journal.records()
        if not records:
            raise Broken("desk")
        self._begun = sheet_of(records[0])
        self._deeds = deeds_of(self._begun, records[1:])
        self.sheet = sheet_after_all(self._begun, self._deeds)

    def do(self, deed):
        """Does a deed and returns it."""
        if not is_deed(self.sheet, deed):
            raise Refused("deed")
        # if the journal has no room, nothing has changed
        self._journal.write(record_of(deed))
        self._deeds = self._deeds + (deed,)
        self.sheet = sheet_after(self.sheet, deed)
        return deed

    def answer(self, things):
        """Says some times for a lot that comes, and returns the pairs."""
        return self.do(say_deed(self.sheet, things))[1]

    def enter(self, thing, wish):
        """Says the time nearest to a wish for a thing that comes alone, and returns it."""
        return self.do(hour_deed(self.sheet, thing, wish))[1][0][1]

    def undo(self, many):
        """Takes back so many of the last deeds that are kept."""
        left = len(self._deeds) - many
        if left < 0:
            raise Refused("deeds")
        if any([has_said(deed) for deed in self._deeds[left:]]):
            raise Refused("said")
        self._journal.drop(many)
        self._deeds = self._deeds[:left]
        self.sheet = sheet_after_all(self._begun, self._deeds)

    def deeds(self):
        """All deeds that are kept since the desk began or was packed."""
        return self._deeds

    def begun(self):
        """The sheet of when the desk began or was packed."""
        return self._begun

    def pack(self):
        """Keeps the present sheet without deeds."""
        self._journal.renew((sheet_record(self.sheet),))
        self._begun = self.sheet
        self._deeds = ()


def start_desk(disk, table, batches):
    """Renews the journal on a disk with that of a desk on which nothing has come, and returns the desk."""
    sheet = new_sheet(table, batches)
    Journal(disk).renew((sheet_record(sheet),))
    return Desk(disk)
