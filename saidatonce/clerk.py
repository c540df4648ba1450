"""What a clerk says who keeps all ties."""

from saidatonce.days import ends_by_rows, said
from saidatonce.errors import Refused
from saidatonce.held import are_held, check_both
from saidatonce.kinds import is_lot
from saidatonce.plans import nearest
from saidatonce.room import ties_to_tell
from saidatonce.squares import rows_within


def is_missing_lot(times, value):
    """Whether any value is a lot of missing things."""
    return is_lot(value, len(times)) and all([times[thing] is None for thing in value])


def may_come(times, batches, value):
    """Whether any value is a lot of missing things, at most as many as the first batch tells."""
    return is_missing_lot(times, value) and len(value) <= batches[0]


def passed_rows(rows, thing):
    """Rows in which each walk may be put together from one to a thing and one from there."""
    onward = rows[thing]
    passed = []
    for row in rows:
        best = list(row)
        if row[thing] is not None:
            for other, weight in enumerate(onward):
                if weight is not None and (best[other] is None or row[thing] + weight > best[other]):
                    best[other] = row[thing] + weight
        passed.append(tuple(best))
    return tuple(passed)


def rows_through(table, batches, things):
    """The least differences of times that are held for batches, also those that come about through a lot."""
    rows = rows_within(table, ties_to_tell(table, batches))
    for thing in things:
        rows = passed_rows(rows, thing)
    return rows


def pairs_for(table, times, batches, things):
    """Some times for a lot with which times are held for the batches behind the first one, if they are for all."""
    rows = rows_through(table, batches[1:], things)
    pairs = []
    for thing in things:
        least, greatest = ends_by_rows(rows, times, thing)
        # the nearest to 0 is within the bounds of times if any right one is
        pair = thing, nearest(0, least, greatest)
        times = said(times, (pair,))
        pairs.append(pair)
    return tuple(pairs)


def answer_to(table, times, batches, things):
    """Some times for a lot of the first batch; times and batches are not checked."""
    if not batches:
        raise Refused("batches")
    if not may_come(times, batches, things):
        raise Refused("things")
    if not are_held(table, times, batches):
        raise Refused("held")
    return pairs_for(table, times, batches, things)


def batch_times(table, times, batches, things):
    """Some times for a lot of the first batch with which times are held for the batches behind it."""
    check_both(table, times, batches)
    return answer_to(table, times, batches, things)


def answers_to(table, times, batches, lots):
    """Some times for lots that come one after another."""
    check_both(table, times, batches)
    answers = []
    for done, lot in enumerate(lots):
        answer = answer_to(table, times, batches[done:], lot)
        times = said(times, answer)
        answers.append(answer)
    return tuple(answers)
