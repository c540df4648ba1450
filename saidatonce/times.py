"""Times, and batches."""

from saidatonce.errors import InvalidNumber, InvalidTimes
from saidatonce.kinds import is_between

MOST_TIME = 10 ** 9
MOST_BATCHES = 60
MOST_SIZE = 100


def is_time(value):
    """Whether any value can stand for a thing in times."""
    return value is None or is_between(value, -MOST_TIME, MOST_TIME)


def times_fault(table, value):
    """The first item of any value that makes it no times, -1 for the whole, None if it is times."""
    if not isinstance(value, tuple) or len(value) != len(table.things):
        return -1
    for at, item in enumerate(value):
        if not is_time(item):
            return at
    return None


def check_times(table, value):
    """Raises InvalidTimes for any value that is no times of a table."""
    fault = times_fault(table, value)
    if fault is not None:
        raise InvalidTimes(fault)


def are_times(table, value):
    """Whether any value is times of a table."""
    return times_fault(table, value) is None


def are_batches(value):
    """Whether any value is batches."""
    if not isinstance(value, tuple) or len(value) > MOST_BATCHES:
        return False
    return all([is_between(size, 1, MOST_SIZE) for size in value])


def check_batches(value):
    """Raises InvalidNumber for any value that is no batches."""
    if not are_batches(value):
        raise InvalidNumber("batches")


def nothing_said(table):
    """The times when nothing has come."""
    return (None,) * len(table.things)


def come(times):
    """The lot of the things that have come."""
    return tuple([thing for thing, time in enumerate(times) if time is not None])


def missing(times):
    """The lot of the things that have not come."""
    return tuple([thing for thing, time in enumerate(times) if time is None])


def moved_times(times, by):
    """The times with an integer added to each of them."""
    return tuple([None if time is None else time + by for time in times])


def turned_times(times):
    """The times with the other sign."""
    return tuple([None if time is None else -time for time in times])


def stretched_times(times, factor):
    """The times, each multiplied by a number."""
    return tuple([None if time is None else time * factor for time in times])


def placed_times(times, places):
    """The times by the new numbers of the things."""
    placed = list(times)
    for time, place in zip(times, places):
        placed[place] = time
    return tuple(placed)


def times_without(times, things):
    """The times of the things that are not in a lot."""
    return tuple([time for thing, time in enumerate(times) if thing not in things])
