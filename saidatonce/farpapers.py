"""Papers that show that spots are too far apart."""

from saidatonce.kinds import are_below
from saidatonce.places import check_weights, place_distances, sum_of, sums_from
from saidatonce.reach import walk_reach


class FarPaper:
    """Things, and the ties, forwards or backwards, that lead from each to the next one."""

    def __init__(self, things, ties):
        self.things = things
        self.ties = ties


def sum_layers(table, thing, most):
    """The least sums from a thing of at most 0 ties, 1 tie, and so on."""
    # with weights from 0 on no thing need be passed twice
    return [sums_from(table, thing, ties) for ties in range(min(most, len(table.things) - 1) + 1)]


def tie_into(table, row, thing, total):
    """The number of a tie that makes a sum up to a thing, and the thing before, None if there is none."""
    for number, (x, y, weight) in enumerate(table.ties):
        if y == thing and sum_of(row[x], weight) == total:
            return number, x
        if x == thing and sum_of(row[y], weight) == total:
            return number, y
    return None


def paper_to(table, layers, end):
    """The paper of a way, from the thing of the layers to one with a sum in the last of them, with this sum."""
    things = [end]
    ties = []
    for level in reversed(range(1, len(layers))):
        total = layers[level][things[-1]]
        if layers[level - 1][things[-1]] != total:
            number, before = tie_into(table, layers[level - 1], things[-1], total)
            ties.append(number)
            things.append(before)
    return FarPaper(tuple(things[::-1]), tuple(ties[::-1]))


def far_paper(table, roads, spots, batches):
    """Some right paper, or None."""
    check_weights(table)
    distances = place_distances(roads)
    here = [thing for thing, spot in enumerate(spots) if spot is not None]
    for one in here:
        layers = sum_layers(table, one, walk_reach(batches))
        for other in here:
            total = layers[-1][other]
            if total is not None and distances[spots[one]][spots[other]] > total:
                return paper_to(table, layers, other)
    return None


def leads_between(tie, one, other):
    """Whether a tie leads from one thing to another one, or back."""
    return tie[:2] == (one, other) or tie[:2] == (other, one)


def is_way(table, things, ties):
    """Whether any values are things and the ties that lead from each to the next one."""
    if not are_below(things, len(table.things)) or not are_below(ties, len(table.ties)):
        return False
    if len(things) != len(ties) + 1:
        return False
    return all([leads_between(table.ties[tie], things[at], things[at + 1]) for at, tie in enumerate(ties)])


def is_far_paper(table, roads, spots, batches, value):
    """Whether any value is a right paper for spots and batches."""
    if not isinstance(value, FarPaper) or not is_way(table, value.things, value.ties):
        return False
    if len(value.ties) > walk_reach(batches):
        return False
    first, last = spots[value.things[0]], spots[value.things[-1]]
    if first is None or last is None:
        return False
    return place_distances(roads)[first][last] > sum([table.ties[tie][2] for tie in value.ties])
