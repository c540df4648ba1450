"""How far batches may make a clerk look before times are not held."""

from saidatonce.layers import layers_from, walk_in_layers
from saidatonce.reach import ring_reach, walk_reach
from saidatonce.steady import briefest, ring_above
from saidatonce.times import check_batches, check_times, come, missing


def heavy_end(row, times, thing):
    """A thing that has come whose time is above that of another one by less than a layer tells, or None."""
    for other in come(times):
        if row[other] is not None and row[other] > times[other] - times[thing]:
            return other
    return None


def heavy_walk_from(table, times, thing):
    """Some walk from a thing, with the fewest ties, that is heavier than the times of its ends differ, or None."""
    layers = layers_from(table, thing, 2 * len(table.things))
    for ties, row in enumerate(layers):
        end = heavy_end(row, times, thing)
        if end is not None:
            return walk_in_layers(table, layers[:ties + 1], end)
    return None


def heavy_walk(table, times):
    """Some walk between things that have come, with the fewest ties, that is heavier than they differ, or None."""
    return briefest([heavy_walk_from(table, times, thing) for thing in come(times)])


def barring_ring(table, times):
    """Some closed walk above 0, with the fewest ties, that begins with a missing thing, or None."""
    return briefest([ring_above(table, thing, len(table.things)) for thing in missing(times)])


def ties_of(walk):
    """How many ties a walk has, None for no walk."""
    if walk is None:
        return None
    return len(walk)


def limits_of(table, times):
    """The two limits of times."""
    return ties_of(heavy_walk(table, times)), ties_of(barring_ring(table, times))


def limits(table, times):
    """The fewest ties of a walk that is too heavy for times, and of a ring that bars what is missing, or None."""
    check_times(table, times)
    return limits_of(table, times)


def is_below_limit(reach, limit):
    """Whether a reach is below a limit, which may be None."""
    return limit is None or reach < limit


def are_within(pair, batches):
    """Whether batches look less far than two limits."""
    return is_below_limit(walk_reach(batches), pair[0]) and is_below_limit(ring_reach(batches), pair[1])


def is_within(pair, batches):
    """Whether batches are within two limits, numbers or None."""
    check_batches(batches)
    return are_within(pair, batches)
