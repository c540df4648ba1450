"""Closed walks above 0, greatest weights for ever, and the rings with the greatest mean."""

from math import gcd

from saidatonce.errors import InvalidNumber, Refused
from saidatonce.kinds import is_number
from saidatonce.layers import first_layer, layers_from, tie_into, walk_in_layers
from saidatonce.walks import unwound, walk_weight


def briefest(walks):
    """The first one with the fewest ties of a list of walks, of which some may be None; None if all are."""
    best = None
    for walk in walks:
        if walk is not None and (best is None or len(walk) < len(best)):
            best = walk
    return best


def ring_above(table, thing, most):
    """Some closed walk above 0 of at most so many ties, with the fewest, that begins with a thing, or None."""
    layers = layers_from(table, thing, most)
    for ties, row in enumerate(layers):
        if row[thing] > 0:
            return walk_in_layers(table, layers[:ties + 1], thing)
    return None


def shortest_ring(table, most):
    """Some closed walk above 0 of at most so many ties, with the fewest, or None."""
    count = len(table.things)
    # one with the fewest ties passes no thing twice but its first one
    return briefest([ring_above(table, thing, min(most, count)) for thing in range(count)])


def barring_walk(table, most):
    """Some closed walk above 0 of at most so many ties, with the fewest, or None."""
    if not is_number(most):
        raise InvalidNumber("most")
    return shortest_ring(table, most)


def has_ring(table):
    """Whether some closed walk has a weight above 0."""
    return shortest_ring(table, len(table.things)) is not None


def steady_length(table):
    """The least number of ties from which on the greatest weights stay the same, None if they never do."""
    if has_ring(table):
        return None
    count = len(table.things)
    # layers end with the last row that is not the one before
    return max([len(layers_from(table, thing, count)) for thing in range(count)]) - 1


def final_weights(table):
    """The greatest weights of walks of any number of ties."""
    if has_ring(table):
        raise Refused("ring")
    count = len(table.things)
    return tuple([layers_from(table, thing, count)[-1] for thing in range(count)])


def exact_layer(table, row):
    """The greatest weights of the walks of a layer, each with one more tie."""
    behind = [None] * len(row)
    for x, y, weight in table.ties:
        if row[x] is not None and (behind[y] is None or row[x] + weight > behind[y]):
            behind[y] = row[x] + weight
    return tuple(behind)


def exact_layers(table, thing):
    """The greatest weights of walks from a thing of just 0 ties, 1 tie, and so on, one for each thing."""
    layers = [first_layer(table, thing)]
    for _ in table.things:
        layers.append(exact_layer(table, layers[-1]))
    return layers


def exact_walk(table, layers, end):
    """A walk with a tie for each of some exact layers but the first, to a thing, with its weight in the last one."""
    walk = []
    at = end
    for level in reversed(range(1, len(layers))):
        number = tie_into(table, layers[level - 1], at, layers[level][at])
        walk.append(number)
        at = table.ties[number][0]
    return tuple(walk[::-1])


def best_mean_from(table, thing):
    """Some closed walk with the greatest mean weight that begins with a thing, of few enough ties, or None."""
    layers = exact_layers(table, thing)
    best = None
    for ties in range(1, len(layers)):
        weight = layers[ties][thing]
        if weight is not None and (best is None or weight * best > layers[best][thing] * ties):
            best = ties
    if best is None:
        return None
    return exact_walk(table, layers[:best + 1], thing)


def mean_ring(table):
    """Some closed walk that passes no thing twice but its first one, with the greatest mean weight, or None."""
    best = None
    for thing in range(len(table.things)):
        walk = best_mean_from(table, thing)
        if walk is not None and (best is None or has_greater_mean(table, walk, best)):
            best = walk
    if best is None:
        return None
    # no ring of a walk with the greatest mean has a lesser one
    return unwound(table, best)[1][0]


def has_greater_mean(table, one, other):
    """Whether a walk has a greater mean weight than another one."""
    return walk_weight(table, one) * len(other) > walk_weight(table, other) * len(one)


def greatest_mean(table):
    """The greatest mean weight of a closed walk, as a pair of integers without a common divisor, or None."""
    ring = mean_ring(table)
    if ring is None:
        return None
    weight = walk_weight(table, ring)
    divisor = gcd(weight, len(ring))
    return weight // divisor, len(ring) // divisor
