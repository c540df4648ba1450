"""Hours: the times that a thing can get."""

from saidatonce.days import course_of, ends_by_rows, keep_rows, said
from saidatonce.errors import Refused
from saidatonce.held import check_both
from saidatonce.kinds import is_between
from saidatonce.reach import ring_reach
from saidatonce.room import ties_to_tell
from saidatonce.squares import rows_within
from saidatonce.times import check_batches, missing


def check_thing(table, thing):
    """Raises Refused for any value that is not the number of a thing."""
    if not is_between(thing, 0, len(table.things) - 1):
        raise Refused("thing")


def rows_to_keep(table, batches):
    """The rows that times of things that have come must keep, and those in which what is missing has no ring."""
    # longer walks, and longer rings, tell nothing more
    rings = rows_within(table, min(ring_reach(batches), len(table.things)))
    return rows_within(table, ties_to_tell(table, batches)), rings


def leave_times(rows, rings, times, things):
    """Whether times of what has come, and rings of what is missing but a lot, leave each thing of the lot a time."""
    if any([rows[thing][thing] > 0 for thing in things]) or not keep_rows(rows, times):
        return False
    return not any([rings[other][other] > 0 for other in missing(times) if other not in things])


def range_between(least, greatest):
    """The pair of two ends, of which each may be open, or None if nothing is between them."""
    if least is not None and greatest is not None and least > greatest:
        return None
    return least, greatest


def hours_by(rows, rings, times, thing):
    """The hours of a thing, by the rows that times must keep."""
    without = said(times, ((thing, None),))
    if not leave_times(rows, rings, without, (thing,)):
        return None
    least, greatest = ends_by_rows(rows, without, thing)
    return range_between(least, greatest)


def hours_of(table, times, batches, thing):
    """The hours of a thing; times, batches and the thing are not checked."""
    rows, rings = rows_to_keep(table, batches)
    return hours_by(rows, rings, times, thing)


def is_hour(hours, hour):
    """Whether an integer is one of hours, a pair."""
    least, greatest = hours
    return (least is None or least <= hour) and (greatest is None or hour <= greatest)


def hours_for(table, times, batches, thing):
    """The least and the greatest hour of a thing, None for an open end, or None if there are no hours."""
    check_both(table, times, batches)
    check_thing(table, thing)
    return hours_of(table, times, batches, thing)


def all_hours(table, times, batches):
    """The hours of all things."""
    check_both(table, times, batches)
    rows, rings = rows_to_keep(table, batches)
    return tuple([hours_by(rows, rings, times, thing) for thing in range(len(table.things))])


def hours_course(table, day, batches, thing):
    """The hours of a thing behind none of the batches of a day, behind the first one, and so on."""
    check_batches(batches)
    check_thing(table, thing)
    rows, rings = rows_to_keep(table, batches)
    return tuple([hours_by(rows, rings, times, thing) for times in course_of(table, day)])
