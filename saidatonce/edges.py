"""Why a time is an hour of a thing, or why not."""

from saidatonce.days import said
from saidatonce.errors import Refused
from saidatonce.held import Held, check_both, paper_of
from saidatonce.kinds import is_between
from saidatonce.ranges import check_thing, hours_of
from saidatonce.room import ties_to_tell
from saidatonce.squares import heaviest_walk
from saidatonce.times import MOST_TIME, come
from saidatonce.walks import walk_weight


def is_time_said(value):
    """Whether any value is a time that can be said."""
    return is_between(value, -MOST_TIME, MOST_TIME)


def why_not(table, times, batches, thing, hour):
    """None if an hour is one of a thing, otherwise some right Short or Barred of the times with it."""
    check_both(table, times, batches)
    check_thing(table, thing)
    if not is_time_said(hour):
        raise Refused("hour")
    paper = paper_of(table, said(times, ((thing, hour),)), batches)
    if isinstance(paper, Held):
        return None
    return paper


def walk_to_least(table, times, most, thing, least):
    """Some walk to a thing from another one that has come which tells its least hour, None for an open end."""
    for other in come(times):
        walk = heaviest_walk(table, other, thing, most)
        if other != thing and walk is not None and times[other] + walk_weight(table, walk) == least:
            return walk
    return None


def walk_from_greatest(table, times, most, thing, greatest):
    """Some walk from a thing to another one that has come which tells its greatest hour, None for an open end."""
    for other in come(times):
        walk = heaviest_walk(table, thing, other, most)
        if other != thing and walk is not None and times[other] - walk_weight(table, walk) == greatest:
            return walk
    return None


def edge_walks(table, times, batches, thing):
    """Walks that tell the least and the greatest hour of a thing."""
    check_both(table, times, batches)
    check_thing(table, thing)
    hours = hours_of(table, times, batches, thing)
    if hours is None:
        raise Refused("hours")
    most = ties_to_tell(table, batches)
    least, greatest = hours
    return walk_to_least(table, times, most, thing, least), walk_from_greatest(table, times, most, thing, greatest)
