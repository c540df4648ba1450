"""Rows of greatest weights, for walks of as many ties as one likes, and walks that have them."""

from saidatonce.errors import InvalidNumber, Refused
from saidatonce.kinds import is_between
from saidatonce.layers import layers_from, walk_in_layers

# 10 to the power of 130, in parts: no exponent may be above 64
MOST_TIES_FAR = 10 ** 50 * 10 ** 50 * 10 ** 30
LONGEST_WALK = 200


def check_most(most):
    """Raises InvalidNumber for any value that is no number of ties that rows are told for."""
    if not is_between(most, 0, MOST_TIES_FAR):
        raise InvalidNumber("most")


def check_length(most):
    """Raises what check_most does, then Refused for more ties than walks are told of."""
    check_most(most)
    if most > LONGEST_WALK:
        raise Refused("size")


def still_rows(table):
    """The rows for walks without ties."""
    count = len(table.things)
    return tuple([tuple([0 if one == other else None for other in range(count)]) for one in range(count)])


def tie_rows(table):
    """The rows for walks of at most one tie."""
    rows = [list(row) for row in still_rows(table)]
    for x, y, weight in table.ties:
        if rows[x][y] is None or weight > rows[x][y]:
            rows[x][y] = weight
    return tuple([tuple(row) for row in rows])


def greatest_sum(row, column):
    """The greatest sum of two items at the same place, both integers, or None."""
    best = None
    for left, right in zip(row, column):
        if left is not None and right is not None and (best is None or left + right > best):
            best = left + right
    return best


def joined_rows(one, other):
    """The greatest sums of an entry of one, to any thing, and of one of other, from there."""
    columns = list(zip(*other))
    return tuple([tuple([greatest_sum(row, column) for column in columns]) for row in one])


def rows_within(table, most):
    """The rows for at most so many ties, doubled digit by digit."""
    if most == 0:
        return still_rows(table)
    single = tie_rows(table)
    rows = single
    for place in reversed(range(most.bit_length() - 1)):
        doubled = joined_rows(rows, rows)
        if doubled == rows:
            # walks of twice as many ties tell nothing more, so no longer ones do
            return rows
        rows = doubled
        if most >> place & 1:
            rows = joined_rows(rows, single)
    return rows


def greatest_weights(table, most):
    """The rows with the greatest weights of walks of at most so many ties."""
    check_most(most)
    return rows_within(table, most)


def closed_weights(table, most):
    """For each thing the greatest weight of a closed walk of at most so many ties, or None."""
    check_most(most)
    best = [None] * len(table.things)
    if most == 0:
        return tuple(best)
    rows = rows_within(table, most - 1)
    for x, y, weight in table.ties:
        if rows[y][x] is not None and (best[x] is None or weight + rows[y][x] > best[x]):
            best[x] = weight + rows[y][x]
    return tuple(best)


def heaviest_walk(table, one, other, most):
    """Some walk with the greatest weight from one thing to another one, or None."""
    check_length(most)
    layers = layers_from(table, one, most)
    if layers[-1][other] is None:
        return None
    return walk_in_layers(table, layers, other)


def heaviest_last_tie(table, row, thing):
    """The number of the tie that makes the heaviest walk to a thing, behind the walks of a layer, or None."""
    best = None
    heaviest = None
    for number, (x, y, weight) in enumerate(table.ties):
        if y == thing and row[x] is not None and (best is None or row[x] + weight > heaviest):
            best = number
            heaviest = row[x] + weight
    return best


def heaviest_ring(table, thing, most):
    """Some closed walk with the greatest weight that begins with a thing, or None."""
    check_length(most)
    if most == 0:
        return None
    layers = layers_from(table, thing, most - 1)
    last = heaviest_last_tie(table, layers[-1], thing)
    if last is None:
        return None
    return walk_in_layers(table, layers, table.ties[last][0]) + (last,)
