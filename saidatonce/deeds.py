"""Deeds: what can be done with an open sheet."""

from saidatonce.days import is_batch, said
from saidatonce.held import are_held
from saidatonce.kinds import is_between, is_name
from saidatonce.sheets import Sheet
from saidatonce.tables import (
    MOST_THINGS, MOST_TIES, Table, is_tie, renamed_table, with_tie, without_things, without_ties,
)
from saidatonce.times import MOST_BATCHES, MOST_SIZE, placed_times, times_without


def has_pairs(sheet, deed):
    """Whether a deed has pairs that can be said for the first batch, perhaps none."""
    pairs = deed[1]
    if not sheet.batches or not isinstance(pairs, tuple) or len(pairs) > sheet.batches[0]:
        return False
    return not pairs or is_batch(sheet.table, sheet.times, pairs)


def has_size(sheet, deed):
    """Whether a deed has the size of a further batch."""
    return len(sheet.batches) < MOST_BATCHES and is_between(deed[1], 1, MOST_SIZE)


def has_batch(sheet, _):
    """Whether there is a batch that a deed can take away."""
    return len(sheet.batches) > 0


def has_tie(sheet, deed):
    """Whether a deed has a further tie."""
    return len(sheet.table.ties) < MOST_TIES and is_tie(len(sheet.table.things), deed[1])


def has_number(sheet, deed):
    """Whether a deed has the number of a tie."""
    return is_between(deed[1], 0, len(sheet.table.ties) - 1)


def has_new_name(sheet, deed):
    """Whether a deed ends with a name that no thing has."""
    name = deed[-1]
    return is_name(name) and name not in sheet.table.things


def has_new_thing(sheet, deed):
    """Whether a deed has a name for a further thing."""
    return len(sheet.table.things) < MOST_THINGS and has_new_name(sheet, deed)


def has_thing(sheet, deed):
    """Whether a deed has a thing."""
    return is_between(deed[1], 0, len(sheet.table.things) - 1)


def has_thing_and_name(sheet, deed):
    """Whether a deed has a thing, and a name that no thing has."""
    return has_thing(sheet, deed) and has_new_name(sheet, deed)


def has_leaver(sheet, deed):
    """Whether a deed has a thing that is not the only one."""
    return len(sheet.table.things) > 1 and has_thing(sheet, deed)


def after_say(sheet, deed):
    """The sheet behind the first batch."""
    return Sheet(sheet.table, said(sheet.times, deed[1]), sheet.batches[1:])


def after_more(sheet, deed):
    """The sheet with a further batch."""
    return Sheet(sheet.table, sheet.times, sheet.batches + (deed[1],))


def after_less(sheet, _):
    """The sheet without the last batch."""
    return Sheet(sheet.table, sheet.times, sheet.batches[:-1])


def after_tie(sheet, deed):
    """The sheet with a further tie."""
    return Sheet(with_tie(sheet.table, deed[1]), sheet.times, sheet.batches)


def after_untie(sheet, deed):
    """The sheet without a tie."""
    return Sheet(without_ties(sheet.table, (deed[1],)), sheet.times, sheet.batches)


def after_thing(sheet, deed):
    """The sheet with a further thing, without ties, that is missing."""
    things = sorted(sheet.table.things + (deed[1],))
    at = things.index(deed[1])
    ties = tuple([(x + int(x >= at), y + int(y >= at), weight) for x, y, weight in sheet.table.ties])
    return Sheet(Table(tuple(things), ties), sheet.times[:at] + (None,) + sheet.times[at:], sheet.batches)


def after_name(sheet, deed):
    """The sheet in which a thing has another name."""
    names = [deed[2] if thing == deed[1] else name for thing, name in enumerate(sheet.table.things)]
    table, places = renamed_table(sheet.table, tuple(names))
    return Sheet(table, placed_times(sheet.times, places), sheet.batches)


def after_leave(sheet, deed):
    """The sheet without a thing."""
    lot = (deed[1],)
    return Sheet(without_things(sheet.table, lot), times_without(sheet.times, lot), sheet.batches)


# for each word the length of its deeds, whether one has the form, and the sheet behind it
DEEDS = {
    "say": (2, has_pairs, after_say),
    "more": (2, has_size, after_more),
    "less": (1, has_batch, after_less),
    "tie": (2, has_tie, after_tie),
    "untie": (2, has_number, after_untie),
    "thing": (2, has_new_thing, after_thing),
    "name": (3, has_thing_and_name, after_name),
    "leave": (2, has_leaver, after_leave),
}

# behind the others an open sheet is open
DEEDS_TO_JUDGE = ("say", "more", "tie")


def has_form(sheet, value):
    """Whether any value has the form of a deed in an open sheet."""
    if not isinstance(value, tuple) or not value or not isinstance(value[0], str) or value[0] not in DEEDS:
        return False
    length = DEEDS[value[0]][0]
    check = DEEDS[value[0]][1]
    return len(value) == length and check(sheet, value)


def is_deed(sheet, value):
    """Whether any value is a deed that can be done in an open sheet."""
    if not has_form(sheet, value):
        return False
    if value[0] not in DEEDS_TO_JUDGE:
        return True
    behind = sheet_after(sheet, value)
    return are_held(behind.table, behind.times, behind.batches)


def sheet_after(sheet, deed):
    """The sheet behind a deed."""
    after = DEEDS[deed[0]][2]
    return after(sheet, deed)


def sheet_after_all(sheet, deeds):
    """The sheet behind deeds, one after another."""
    for deed in deeds:
        sheet = sheet_after(sheet, deed)
    return sheet
