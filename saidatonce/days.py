"""Days: batches said, one after another."""

from saidatonce.errors import InvalidDay
from saidatonce.kinds import is_between
from saidatonce.times import MOST_TIME, come, nothing_said


def is_pair(times, value):
    """Whether any value is a pair of a thing that has not come and a time for it."""
    if not isinstance(value, tuple) or len(value) != 2:
        return False
    thing, time = value
    if not is_between(thing, 0, len(times) - 1) or not is_between(time, -MOST_TIME, MOST_TIME):
        return False
    return times[thing] is None


def is_batch(table, times, value):
    """Whether any value is a batch said to some times."""
    if not isinstance(value, tuple) or not value or not all([is_pair(times, pair) for pair in value]):
        return False
    return all([value[at][0] < value[at + 1][0] for at in range(len(value) - 1)])


def said(times, pairs):
    """The times with those of some pairs."""
    behind = list(times)
    for thing, time in pairs:
        behind[thing] = time
    return tuple(behind)


def day_fault(table, value):
    """The first item of any value that makes it no day, -1 for the whole, None if it is a day."""
    if not isinstance(value, tuple) or len(value) > len(table.things):
        return -1
    times = nothing_said(table)
    for at, batch in enumerate(value):
        if not is_batch(table, times, batch):
            return at
        times = said(times, batch)
    return None


def check_day(table, value):
    """Raises InvalidDay for any value that is no day."""
    fault = day_fault(table, value)
    if fault is not None:
        raise InvalidDay(fault)


def course_of(table, day):
    """The times ahead of the first batch, behind it, and so on."""
    course = [nothing_said(table)]
    for batch in day:
        course.append(said(course[-1], batch))
    return tuple(course)


def times_of(table, day):
    """The times behind the last batch."""
    return course_of(table, day)[-1]


def lots_of(day):
    """The lots of the things of a day, batch by batch."""
    return tuple([tuple([pair[0] for pair in batch]) for batch in day])


def day_by(lots, times):
    """The day on which lots come and get the times that are told for them."""
    return tuple([tuple([(thing, times[thing]) for thing in lot]) for lot in lots])


def moved_day(day, by):
    """The day with an integer added to each time."""
    return tuple([tuple([(thing, time + by) for thing, time in batch]) for batch in day])


def fits_batches(day, batches):
    """Whether a day has no more batches than are told, and none of more things."""
    return len(day) <= len(batches) and all([len(batch) <= size for batch, size in zip(day, batches)])


def is_broken(tie, times):
    """Whether both things of a tie have come, with times that do not keep it."""
    x, y, weight = tie
    return times[x] is not None and times[y] is not None and times[y] - times[x] < weight


def broken_ties(table, times):
    """The lot of the numbers of the ties that times do not keep."""
    return tuple([number for number, tie in enumerate(table.ties) if is_broken(tie, times)])


def is_kept(table, times):
    """Whether times break no tie."""
    return broken_ties(table, times) == ()


def keep_rows(rows, times):
    """Whether times of things that have come differ by no less than rows tell."""
    here = come(times)
    return all([
        rows[one][other] is None or times[other] - times[one] >= rows[one][other] for one in here for other in here
    ])


def ends_by_rows(rows, times, thing):
    """The least and the greatest time of a thing that differs enough from all that have come, None for an open end."""
    lows = [times[other] + rows[other][thing] for other in come(times) if rows[other][thing] is not None]
    highs = [times[other] - rows[thing][other] for other in come(times) if rows[thing][other] is not None]
    return max(lows, default=None), min(highs, default=None)


def first_broken(table, day):
    """The index of the first batch behind which a tie is broken, or None."""
    for at, times in enumerate(course_of(table, day)[1:]):
        if not is_kept(table, times):
            return at
    return None


def is_day(table, value, kept=True):
    """Whether any value is a day, and, if `kept` is True, one that breaks no tie."""
    if day_fault(table, value) is not None:
        return False
    return kept is not True or first_broken(table, value) is None
