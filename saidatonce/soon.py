"""How soon what is held is held for ever."""

from saidatonce.days import said
from saidatonce.reach import ring_reach, walk_reach
from saidatonce.squares import rows_within
from saidatonce.steady import final_weights, shortest_ring, steady_length
from saidatonce.times import nothing_said


def is_ever_after(table, batches):
    """Whether all times that are held for batches are held for ever."""
    ring = shortest_ring(table, len(table.things))
    if ring is not None:
        return ring_reach(batches) >= len(ring)
    return walk_reach(batches) >= steady_length(table)


def orders_for_ever(table):
    """The least number of orders, one by one, such that what is held for them is held for ever."""
    orders = 0
    while not is_ever_after(table, (1,) * orders):
        orders += 1
    return orders


def first_difference(rows, other):
    """The first pair of two things for which two rows of rows differ, or None."""
    for one, row in enumerate(rows):
        for at, entry in enumerate(row):
            if entry != other[one][at]:
                return one, at
    return None


def late_times(table, batches):
    """Some times that are held for batches, but not for ever, or None."""
    if is_ever_after(table, batches):
        return None
    nothing = nothing_said(table)
    if shortest_ring(table, len(table.things)) is not None:
        return nothing
    rows = final_weights(table)
    one, other = first_difference(rows, rows_within(table, walk_reach(batches)))
    # one less than what is needed for ever
    return said(nothing, ((one, 0), (other, rows[one][other] - 1)))
