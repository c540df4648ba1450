"""Games on small tables: what a clerk may say, by all whole times in a window, and whether he can keep all ties."""

from saidatonce.days import ends_by_rows, is_kept, keep_rows, said
from saidatonce.errors import Refused
from saidatonce.reach import ring_reach, walk_reach
from saidatonce.squares import closed_weights, rows_within
from saidatonce.tables import without_things
from saidatonce.times import missing, nothing_said, times_without

MOST_THINGS = 4
MOST_WEIGHT = 4
MOST_APART = 20
MOST_BATCHES = 4
MOST_WAYS = 3000


def times_said(times):
    """The list of the times of the things that have come."""
    return [time for time in times if time is not None]


def check_table(table):
    """Raises Refused for a table that is too great to be tried."""
    if len(table.things) > MOST_THINGS or any([tie[2] > MOST_WEIGHT for tie in table.ties]):
        raise Refused("size")


def check_game(table, times):
    """Raises Refused for a table, or times, too great to be tried."""
    check_table(table)
    own = times_said(times)
    if own and max(own) - min(own) > MOST_APART:
        raise Refused("size")


def check_many(many):
    """Raises Refused for too many batches."""
    if many > MOST_BATCHES:
        raise Refused("size")


def window_around(table, times):
    """The least and the greatest time that is tried, for any table and times."""
    beyond = max([0] + [tie[2] for tie in table.ties]) * (len(table.things) - 1)
    own = times_said(times)
    if not own:
        return 0, beyond
    return min(own) - beyond, max(own) + beyond


def window_of(table, times):
    """The least and the greatest time that is tried."""
    check_game(table, times)
    return window_around(table, times)


def check_ways(table, times, lot):
    """Raises Refused for what is too great to be tried, also if there are too many times for a lot."""
    check_game(table, times)
    least, greatest = window_around(table, times)
    ways = 1
    for _ in lot:
        ways = ways * (greatest - least + 1)
    if ways > MOST_WAYS:
        raise Refused("size")


def kept_with(table, times, lot):
    """The list of all lots of pairs for a lot that break no tie, ascending, with times in the window."""
    if not is_kept(table, times):
        return []
    least, greatest = window_around(table, times)
    found = [()]
    for thing in lot:
        longer = [pairs + ((thing, time),) for pairs in found for time in range(least, greatest + 1)]
        found = [pairs for pairs in longer if is_kept(table, said(times, pairs))]
    return found


def kept_batches(table, times, lot):
    """All lots of pairs for a lot of missing things that break no tie, with times in the window."""
    check_ways(table, times, lot)
    return tuple(kept_with(table, times, lot))


def is_barred(table, lot, batches):
    """Whether a thing of a lot is on a closed walk above 0 that is short enough for batches."""
    weights = closed_weights(table, ring_reach(batches))
    return any([weights[thing] is not None and weights[thing] > 0 for thing in lot])


# By point 31 it is enough to look at walks: nobody can keep all ties if one is too heavy, and whoever sees to it
# that none gets too heavy can. The tests play whole games instead.


def clerk_keeps(table, times, batches):
    """Whether some clerk can keep all ties, whatever comes."""
    return keep_rows(rows_within(table, walk_reach(batches)), times) and not is_barred(table, missing(times), batches)


def clerk_keeps_among(table, times, lot, batches):
    """Whether some clerk can who knows that of the missing things only those of a lot may come."""
    others = tuple([thing for thing in missing(times) if thing not in lot])
    if len(others) == len(times):
        return True
    return clerk_keeps(without_things(table, others), times_without(times, others), batches)


def can_keep_together(table, times, lot):
    """Whether there are times for a lot of missing things that break no tie."""
    check_game(table, times)
    # if all of them may come together, they can be kept exactly if there are such times
    return clerk_keeps_among(table, times, lot, (len(table.things),))


def can_keep(table, times, batches):
    """Whether some clerk can keep all ties, whatever comes in batches."""
    check_game(table, times)
    check_many(len(batches))
    return clerk_keeps(table, times, batches)


def can_keep_among(table, times, lot, batches):
    """Whether some clerk can who knows that of the missing things only those of a lot may come."""
    check_game(table, times)
    check_many(len(batches))
    return clerk_keeps_among(table, times, lot, batches)


def least_orders(table, times, most):
    """The least number, at most so great, of batches of one that beat every clerk, or None."""
    check_game(table, times)
    check_many(most)
    for orders in range(most + 1):
        if not clerk_keeps(table, times, (1,) * orders):
            return orders
    return None


def right_batches(table, times, lot, batches):
    """What may be said for a lot of missing things that a clerk can keep in the batches left."""
    check_ways(table, times, lot)
    check_many(len(batches))
    left = tuple([thing for thing in missing(times) if thing not in lot])
    if is_barred(table, left, batches):
        return ()
    rows = rows_within(table, walk_reach(batches))
    return tuple([pairs for pairs in kept_with(table, times, lot) if keep_rows(rows, said(times, pairs))])


def least_answer(table, times, lot, batches, least):
    """The first right batch for a lot, in the batches left, with times from a least one on, or None."""
    rows = rows_within(table, walk_reach(batches))
    behind = said(times, [(thing, least) for thing in lot])
    # each round carries what is asked for one tie farther
    for _ in lot:
        behind = said(behind, [(thing, ends_by_rows(rows, behind, thing)[0]) for thing in lot])
    if not keep_rows(rows, behind) or is_barred(table, missing(behind), batches):
        return None
    return tuple([(thing, behind[thing]) for thing in lot])


def sizes_in(rows):
    """The sum of the sizes of all entries of rows."""
    return sum([abs(entry) for row in rows for entry in row if entry is not None])


def lots_of_things(things, many):
    """All lots of at most so many of some things, ascending."""
    lots = [()]
    for thing in things:
        lots = lots + [lot + (thing,) for lot in lots if len(lot) < many]
    return sorted(lots)


def beating_lots(table, times, batches):
    """The lots that may come in the first batch for which no times are right for the other ones."""
    check_game(table, times)
    check_many(len(batches))
    if not batches:
        return ()
    # if there are right times, there are such that no one lies farther below those said
    deep = window_around(table, times)[0] - sizes_in(rows_within(table, walk_reach(batches[1:])))
    lots = lots_of_things(missing(times), batches[0])
    return tuple([lot for lot in lots if least_answer(table, times, lot, batches[1:], deep) is None])


def first_answers(table, lots, batches):
    """The day of the clerk who says the first one of the right batches each time, from nothing, or None."""
    check_table(table)
    check_many(len(batches))
    times = nothing_said(table)
    day = []
    for at, lot in enumerate(lots):
        least, greatest = window_around(table, times)
        batch = least_answer(table, times, lot, batches[at + 1:], least)
        if batch is None or max([time for _, time in batch]) > greatest:
            return None
        day.append(batch)
        times = said(times, batch)
    return tuple(day)
