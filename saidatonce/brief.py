"""How few ties, and how few orders, show that times are not held."""

from saidatonce.held import check_both
from saidatonce.limits import are_within, is_below_limit, limits_of
from saidatonce.reach import ring_reach, walk_reach
from saidatonce.times import check_times


def fewest_ties(table, times, batches):
    """The least number of ties of the walk of a right Short or Barred, or None if the times are held."""
    check_both(table, times, batches)
    short, barred = limits_of(table, times)
    reached = []
    if not is_below_limit(walk_reach(batches), short):
        reached.append(short)
    if not is_below_limit(ring_reach(batches), barred):
        reached.append(barred)
    return min(reached, default=None)


def orders_that_beat(table, times):
    """The least number of orders, one by one, for which times are not held, or None if there is none."""
    check_times(table, times)
    pair = limits_of(table, times)
    if pair == (None, None):
        return None
    orders = 0
    while are_within(pair, (1,) * orders):
        orders += 1
    return orders
