"""Rings above 0: how many orders they need to beat every clerk, what they bar, and how ties are eased."""

from saidatonce.errors import InvalidNumber
from saidatonce.kinds import is_between
from saidatonce.reach import ring_reach
from saidatonce.squares import closed_weights
from saidatonce.steady import exact_layers, shortest_ring
from saidatonce.times import MOST_SIZE, check_batches


def ring_length(table):
    """The fewest ties of a closed walk with a weight above 0, or None."""
    ring = shortest_ring(table, len(table.things))
    if ring is None:
        return None
    return len(ring)


def least_many(table, size):
    """The least number of batches of one size that beat every clerk from nothing, or None."""
    length = ring_length(table)
    if length is None:
        return None
    many = 0
    while ring_reach((size,) * many) < length:
        many += 1
    return many


def fewest_orders(table):
    """The least number of batches of one that beat every clerk from nothing, or None."""
    return least_many(table, 1)


def fewest_batches(table, size):
    """The least number of batches, each of one size, that beat every clerk from nothing, or None."""
    if not is_between(size, 1, MOST_SIZE):
        raise InvalidNumber("size")
    return least_many(table, size)


def beaten_at(table, batches):
    """The least number of the first batches that beat every clerk from nothing, or None."""
    check_batches(batches)
    length = ring_length(table)
    if length is None:
        return None
    for many in range(len(batches) + 1):
        if ring_reach(batches[:many]) >= length:
            return many
    return None


def barred_things(table, batches):
    """The lot of the things that are on closed walks above 0 that batches reach."""
    check_batches(batches)
    weights = closed_weights(table, ring_reach(batches))
    return tuple([thing for thing, weight in enumerate(weights) if weight is not None and weight > 0])


def least_easing(table, batches):
    """The least number by which all weights must be less so that the table is safe."""
    check_batches(batches)
    # no ring of a closed walk with the greatest mean has a lesser one, and a ring passes no thing twice
    most = min(ring_reach(batches), len(table.things))
    least = 0
    for thing in range(len(table.things)):
        layers = exact_layers(table, thing)
        for ties in range(1, most + 1):
            weight = layers[ties][thing]
            if weight is not None:
                # divided and rounded up
                least = max(least, -(-weight // ties))
    return least
