"""Places on a tree of roads, said for things instead of times."""

from saidatonce.errors import InvalidNumber, Refused
from saidatonce.kinds import is_between, is_number
from saidatonce.reach import walk_reach

MOST_ROADS = 39


def is_road(count, value):
    """Whether any value is a pair of two unlike ones of so many places."""
    if not isinstance(value, tuple) or len(value) != 2:
        return False
    one, other = value
    return is_between(one, 0, count - 1) and is_between(other, 0, count - 1) and one != other


def neighbours(roads):
    """For each place the list of the places one road away."""
    near = [[] for _ in range(len(roads) + 1)]
    for one, other in roads:
        near[one].append(other)
        near[other].append(one)
    return near


def distances_from(near, place):
    """For each place how many roads away it is from one, None if no roads lead there."""
    away = [None] * len(near)
    away[place] = 0
    reached = [place]
    while reached:
        at = reached.pop()
        for other in near[at]:
            if away[other] is None:
                away[other] = away[at] + 1
                reached.append(other)
    return tuple(away)


def are_roads(value):
    """Whether any value is roads: a tree."""
    if not isinstance(value, tuple) or len(value) > MOST_ROADS:
        return False
    count = len(value) + 1
    if not all([is_road(count, road) for road in value]):
        return False
    # so few roads lead everywhere only if they are a tree
    return None not in distances_from(neighbours(value), 0)


def place_distances(roads):
    """For each two places how many roads lead from one to the other."""
    near = neighbours(roads)
    return tuple([distances_from(near, place) for place in range(len(near))])


def are_spots(table, roads, value):
    """Whether any value is spots: a place or None for each thing."""
    if not isinstance(value, tuple) or len(value) != len(table.things):
        return False
    return all([spot is None or is_between(spot, 0, len(roads)) for spot in value])


def check_weights(table):
    """Raises Refused if a weight is below 0."""
    if any([tie[2] < 0 for tie in table.ties]):
        raise Refused("weight")


def lesser(one, other):
    """The lesser of two sums, of which None is above all integers."""
    if one is None:
        return other
    if other is None:
        return one
    return min(one, other)


def sum_of(one, other):
    """The sum of two sums, None if one of them is."""
    if one is None or other is None:
        return None
    return one + other


def sums_from(table, thing, most):
    """The least sums of at most so many ties, either way, from one thing to each."""
    row = [None] * len(table.things)
    row[thing] = 0
    # no sum of weights from 0 on gets less by passing a thing twice
    for _ in range(min(most, len(row) - 1)):
        before = list(row)
        for x, y, weight in table.ties:
            row[x] = lesser(row[x], sum_of(before[y], weight))
            row[y] = lesser(row[y], sum_of(before[x], weight))
    return tuple(row)


def least_sums(table, most):
    """The least sums of at most so many ties, either way, between each two things."""
    if not is_number(most):
        raise InvalidNumber("most")
    check_weights(table)
    return tuple([sums_from(table, thing, most) for thing in range(len(table.things))])


def fits(distances, sums, spots, thing, place):
    """Whether a thing at a place is not too far from any thing that has a spot."""
    for other, spot in enumerate(spots):
        if spot is not None and sums[thing][other] is not None and distances[place][spot] > sums[thing][other]:
            return False
    return True


def all_fit(distances, sums, spots):
    """Whether no two spots are farther apart than sums tell."""
    return all([fits(distances, sums, spots, thing, spot) for thing, spot in enumerate(spots) if spot is not None])


def is_placed(table, roads, spots, batches):
    """Whether some clerk can keep all ties, whatever batches come."""
    return all_fit(place_distances(roads), least_sums(table, walk_reach(batches)), spots)


def fitting_places(distances, sums, spots, thing):
    """All places for a thing that are not too far from any spot."""
    return tuple([place for place in range(len(distances)) if fits(distances, sums, spots, thing, place)])


def spots_for(table, roads, spots, batches, thing):
    """The places for a missing thing behind which some clerk can for the other batches."""
    if not batches:
        raise Refused("batches")
    sums = least_sums(table, walk_reach(batches[1:]))
    distances = place_distances(roads)
    if not all_fit(distances, sums, spots):
        return ()
    return fitting_places(distances, sums, spots, thing)


def sums_through(sums, things):
    """The least sums if one may go on at each of some things."""
    rows = [list(row) for row in sums]
    for middle in things:
        for one in range(len(rows)):
            for other in range(len(rows)):
                rows[one][other] = lesser(rows[one][other], sum_of(rows[one][middle], rows[middle][other]))
    return rows


def batch_spots(table, roads, spots, batches, things):
    """Some places for missing things that come together, behind which some clerk can."""
    if not batches:
        raise Refused("batches")
    if not is_placed(table, roads, spots, batches):
        raise Refused("spots")
    distances = place_distances(roads)
    # with these sums places that fit for one thing leave some for those behind: on a tree,
    # places near enough to each of some spots exist if they do for each two of the spots
    sums = sums_through(least_sums(table, walk_reach(batches[1:])), things)
    said = list(spots)
    for thing in things:
        said[thing] = fitting_places(distances, sums, said, thing)[0]
    return tuple([(thing, said[thing]) for thing in things])
