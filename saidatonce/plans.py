"""Plans: times of all things that keep all ties, for ever."""

from saidatonce.days import ends_by_rows, is_kept, keep_rows, said
from saidatonce.errors import Refused
from saidatonce.kinds import is_integer
from saidatonce.steady import final_weights, has_ring
from saidatonce.times import come, missing


def is_plan(table, times, value):
    """Whether any value is a plan for times."""
    if not isinstance(value, tuple) or len(value) != len(times) or not all([is_integer(time) for time in value]):
        return False
    return all([value[thing] == times[thing] for thing in come(times)]) and is_kept(table, value)


def plan_rows(table, times):
    """The greatest weights of all walks, or None if there is no plan for times."""
    if has_ring(table):
        return None
    rows = final_weights(table)
    if not keep_rows(rows, times):
        return None
    return rows


def nearest(wish, least, greatest):
    """The integer between two ends, of which each may be open, that is nearest to a wish."""
    if least is not None and wish < least:
        return least
    if greatest is not None and wish > greatest:
        return greatest
    return wish


def plan_by(table, times, wishes):
    """The plan in which one thing after another gets the time nearest to its wish, or None if there is none."""
    rows = plan_rows(table, times)
    if rows is None:
        return None
    plan = times
    for thing in missing(times):
        least, greatest = ends_by_rows(rows, plan, thing)
        plan = said(plan, ((thing, nearest(wishes[thing], least, greatest)),))
    return plan


def hours_in_plans(table, times, thing):
    """The least and the greatest time that a thing has in plans, None for an end that is not bounded."""
    rows = plan_rows(table, times)
    if rows is None:
        raise Refused("plan")
    return ends_by_rows(rows, times, thing)


def lesser_plan(one, other):
    """Thing by thing the lesser time of two plans."""
    return tuple([min(times) for times in zip(one, other)])


def greater_plan(one, other):
    """Thing by thing the greater time of two plans."""
    return tuple([max(times) for times in zip(one, other)])
