"""Hours that take none from any other thing."""

from saidatonce.errors import Refused
from saidatonce.held import check_both
from saidatonce.ranges import check_thing, hours_by, range_between, rows_to_keep
from saidatonce.times import missing


def narrowed(hours, least, greatest):
    """The hours, perhaps None, that are between two further ends, of which each may be open."""
    if hours is None:
        return None
    low, high = hours
    if least is not None and (low is None or least > low):
        low = least
    if greatest is not None and (high is None or greatest < high):
        high = greatest
    return range_between(low, high)


def spared(rows, hours, thing, other, kept):
    """Those of the hours of a thing, perhaps None, that take none of the hours of another one, a pair."""
    least, greatest = kept
    onward = rows[thing][other]
    backward = rows[other][thing]
    # an end that is open would be one no more
    if onward is not None and least is None or backward is not None and greatest is None:
        return None
    if onward is not None:
        hours = narrowed(hours, None, least - onward)
    if backward is not None:
        hours = narrowed(hours, greatest + backward, None)
    return hours


def harmless_hours(table, times, batches, thing):
    """The least and the greatest harmless hour of a missing thing, None for an open end, or None if there are none."""
    check_both(table, times, batches)
    check_thing(table, thing)
    if times[thing] is not None:
        raise Refused("thing")
    rows, rings = rows_to_keep(table, batches)
    hours = hours_by(rows, rings, times, thing)
    for other in missing(times):
        kept = hours_by(rows, rings, times, other)
        # hours only get fewer, so where there are none none are lost
        if other != thing and kept is not None:
            hours = spared(rows, hours, thing, other, kept)
    return hours
