"""Into how many batches orders may be cut, and how long they wait for one another."""

from saidatonce.cuts import best_cut, check_orders, worst_cut
from saidatonce.errors import Refused
from saidatonce.limits import are_within, limits_of
from saidatonce.times import check_times


def check_both(table, times, orders):
    """Raises InvalidTimes, or InvalidNumber, for any values that are no times, or no number of orders."""
    check_times(table, times)
    check_orders(orders)


def most_rounds(table, times, orders):
    """The greatest number of batches such that some cut into so many is held."""
    check_both(table, times, orders)
    pair = limits_of(table, times)
    return max([many for many in range(1, orders + 1) if are_within(pair, best_cut(orders, many))], default=0)


def sure_rounds(table, times, orders):
    """The greatest number of batches such that all cuts into so many are held."""
    check_both(table, times, orders)
    pair = limits_of(table, times)
    return max([many for many in range(1, orders + 1) if are_within(pair, worst_cut(orders, many))], default=0)


def waiting_of(size):
    """How long those of a batch wait, in all."""
    return size * (size - 1) // 2


def lesser_wait(one, other):
    """The one of two pairs of a waiting and a cut that waits less; each may be None."""
    if one is None or other is not None and other[0] < one[0]:
        return other
    return one


def with_first(size, behind):
    """The waiting and the cut with a first batch before those of a pair, None for None."""
    if behind is None:
        return None
    waiting, cut = behind
    return waiting + waiting_of(size), (size,) + cut


def least_within(orders, most):
    """The least waiting, and such a cut, of orders into batches with a walk reach of at most so much, or None."""
    # no walk reach is below that of one batch
    if orders + 1 > most:
        return None
    if orders == 0:
        return 0, ()
    best = None
    for size in range(1, orders + 1):
        best = lesser_wait(best, with_first(size, least_within(orders - size, most // (size + 1))))
    return best


def reach_left(pair, size):
    """The greatest walk reach of the batches behind a first one of a size, within limits of which one is a number."""
    far, ring = pair
    most = []
    if far is not None:
        most.append((far - 1) // (size + 1))
    if ring is not None:
        most.append((ring - 1) // size)
    return min(most)


def least_waiting(table, times, orders):
    """The least waiting of a held cut of so many orders, and some such cut."""
    check_both(table, times, orders)
    pair = limits_of(table, times)
    if pair == (None, None):
        return 0, (1,) * orders
    best = None
    for size in range(1, orders + 1):
        best = lesser_wait(best, with_first(size, least_within(orders - size, reach_left(pair, size))))
    if best is None:
        raise Refused("held")
    return best
