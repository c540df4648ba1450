"""Things that make a room hard to do with, and days between two ends."""

from saidatonce.cuts import check_orders
from saidatonce.days import ends_by_rows, said
from saidatonce.errors import Refused
from saidatonce.reach import walk_reach
from saidatonce.room import check_ends, check_room, holds_room, room_for
from saidatonce.squares import rows_within
from saidatonce.times import nothing_said


def rows_for_orders(table, orders):
    """The greatest weights of walks of as many ties as so many orders one by one make a clerk look."""
    # what is held with more ties to look than there are things has no closed walk above 0
    return rows_within(table, min(walk_reach((1,) * orders), len(table.things)))


def adds_up(one, other, total):
    """Whether two weights add up to a number; one may be None."""
    return one is not None and other is not None and one + other == total


def hard_things(table, first, last, orders):
    """The things that need the whole of the least room, if they come in the middle of so many orders."""
    check_ends(table, first, last)
    check_orders(orders)
    least = room_for(table, first, last, (1,) * orders)[0]
    if least is None:
        raise Refused("open")
    rows = rows_for_orders(table, orders - 1)
    inner = [thing for thing in range(len(table.things)) if thing not in (first, last)]
    return tuple([thing for thing in inner if adds_up(rows[first][thing], rows[thing][last], least)])


def some_between(least, greatest):
    """Some integer between two ends, of which each may be open."""
    if least is not None:
        return least
    if greatest is not None:
        return greatest
    return 0


def room_day(table, first, last, room, things):
    """Some times of the ends, and of things that come one after the other between them."""
    check_ends(table, first, last)
    check_room(room)
    if not holds_room(table, first, last, (1,) * len(things), room):
        raise Refused("room")
    times = said(nothing_said(table), ((first, 0), (last, room)))
    for done, thing in enumerate(things):
        rows = rows_for_orders(table, len(things) - done - 1)
        least, greatest = ends_by_rows(rows, times, thing)
        times = said(times, ((thing, some_between(least, greatest)),))
    return times
