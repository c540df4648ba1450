"""Deeds that an open sheet is never without, and how much more it can bear."""

from saidatonce.clerk import may_come, pairs_for
from saidatonce.deeds import is_deed
from saidatonce.edges import is_time_said
from saidatonce.errors import Refused
from saidatonce.kinds import is_between
from saidatonce.limits import are_within, limits_of
from saidatonce.plans import nearest
from saidatonce.ranges import hours_of
from saidatonce.room import are_ends
from saidatonce.tables import MOST_TIES, MOST_WEIGHT
from saidatonce.times import MOST_BATCHES, MOST_SIZE


def say_deed(sheet, things):
    """The deed "say" with some times for a lot."""
    if not sheet.batches:
        raise Refused("batches")
    if not may_come(sheet.times, sheet.batches, things):
        raise Refused("things")
    pairs = pairs_for(sheet.table, sheet.times, sheet.batches, things)
    if not all([is_time_said(time) for _, time in pairs]):
        raise Refused("time")
    return "say", pairs


def is_missing_thing(times, value):
    """Whether any value is the number of a missing thing."""
    return is_between(value, 0, len(times) - 1) and times[value] is None


def hour_deed(sheet, thing, wish):
    """The deed "say" with a thing alone and the time nearest to a wish."""
    if not sheet.batches:
        raise Refused("batches")
    if not is_missing_thing(sheet.times, thing):
        raise Refused("thing")
    least, greatest = hours_of(sheet.table, sheet.times, sheet.batches[1:], thing)
    time = nearest(wish, least, greatest)
    if not is_time_said(time):
        raise Refused("time")
    return "say", ((thing, time),)


def most_more(sheet):
    """The greatest size of a deed "more", 0 if there is none."""
    if len(sheet.batches) == MOST_BATCHES:
        return 0
    pair = limits_of(sheet.table, sheet.times)
    most = 0
    while most < MOST_SIZE and are_within(pair, sheet.batches + (most + 1,)):
        most += 1
    return most


def heaviest_tie(sheet, one, other):
    """The greatest weight of a deed "tie" from one thing to another, None if there is none."""
    if not are_ends(sheet.table, one, other):
        raise Refused("things")
    if len(sheet.table.ties) == MOST_TIES:
        raise Refused("size")
    least, above = -MOST_WEIGHT - 1, MOST_WEIGHT + 1
    # ties up to `least` can be done, those from `above` on can't
    while above - least > 1:
        middle = (least + above) // 2
        if is_deed(sheet, ("tie", (one, other, middle))):
            least = middle
        else:
            above = middle
    if least < -MOST_WEIGHT:
        return None
    return least
