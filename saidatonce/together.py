"""Times of things that come together."""

from saidatonce.clerk import is_missing_lot, passed_rows
from saidatonce.days import ends_by_rows, said
from saidatonce.edges import is_time_said
from saidatonce.errors import Refused
from saidatonce.held import are_held, check_both
from saidatonce.kinds import is_between
from saidatonce.plans import nearest
from saidatonce.ranges import is_hour, leave_times, rows_to_keep


def check_lot(table, times, batches, things):
    """Raises what is told for any values that are no times, no batches or no lot of missing things."""
    check_both(table, times, batches)
    if not is_missing_lot(times, things):
        raise Refused("things")


def lot_rows(table, times, batches, things):
    """The rows that right answers keep, also those that come about through the lot; None without a right answer."""
    rows, rings = rows_to_keep(table, batches)
    for thing in things:
        rows = passed_rows(rows, thing)
    if not leave_times(rows, rings, times, things):
        return None
    return rows


def hours_together(table, times, batches, things):
    """For each thing of a lot its least and its greatest time in right answers, None for an open end; or None."""
    check_lot(table, times, batches, things)
    rows = lot_rows(table, times, batches, things)
    if rows is None:
        return None
    return tuple([ends_by_rows(rows, times, thing) for thing in things])


def least_gap(rows, times, one, other):
    """The least difference, in right answers, of the time of another thing less that of one, None for none."""
    least = ends_by_rows(rows, times, other)[0]
    greatest = ends_by_rows(rows, times, one)[1]
    gap = rows[one][other]
    if least is not None and greatest is not None and (gap is None or least - greatest > gap):
        gap = least - greatest
    return gap


def gaps_together(table, times, batches, things):
    """For each thing of a lot the least differences of the times of the things of the lot less its own; or None."""
    check_lot(table, times, batches, things)
    rows = lot_rows(table, times, batches, things)
    if rows is None:
        return None
    return tuple([tuple([least_gap(rows, times, one, other) for other in things]) for one in things])


def answer_with(table, times, batches, things, thing, hour):
    """Some right answer in which a thing of a lot gets an hour."""
    check_lot(table, times, batches, things)
    if not is_between(thing, 0, len(times) - 1) or thing not in things:
        raise Refused("thing")
    rows = lot_rows(table, times, batches, things)
    if rows is None or not is_time_said(hour) or not is_hour(ends_by_rows(rows, times, thing), hour):
        raise Refused("hour")
    times = said(times, ((thing, hour),))
    for other in things:
        if other != thing:
            least, greatest = ends_by_rows(rows, times, other)
            times = said(times, ((other, nearest(hour, least, greatest)),))
    return tuple([(other, times[other]) for other in things])


def is_answer_pair(thing, value):
    """Whether any value is a pair of a thing and a time that can be said."""
    if not isinstance(value, tuple) or len(value) != 2:
        return False
    return is_between(value[0], thing, thing) and is_time_said(value[1])


def is_batch_answer(table, times, batches, things, value):
    """Whether any value is a right answer to a lot."""
    check_lot(table, times, batches, things)
    if not isinstance(value, tuple) or len(value) != len(things):
        return False
    if not all([is_answer_pair(thing, pair) for thing, pair in zip(things, value)]):
        return False
    return are_held(table, said(times, value), batches)
