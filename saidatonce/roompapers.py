"""Papers that show that a room is held, or that it is not."""

from saidatonce.bounds import is_below, is_tuple_of
from saidatonce.kinds import is_integer
from saidatonce.layers import layers_from
from saidatonce.reach import ring_reach, walk_reach
from saidatonce.room import check_ends, check_room, holds_room, ties_to_tell
from saidatonce.squares import heaviest_ring, heaviest_walk
from saidatonce.steady import shortest_ring
from saidatonce.times import check_batches
from saidatonce.walks import is_closed_walk, is_walk_between, walk_things, walk_weight


class Roomy:
    """The paper that a room is held: for each thing rows that bound the walks from it."""

    def __init__(self, layers):
        self.layers = layers


class Heavy:
    """The paper that a room is not held: a walk that is too heavy."""

    def __init__(self, walk):
        self.walk = walk


def check_all(table, first, last, batches, room):
    """Raises InvalidNumber for any values that are no ends, no batches or no room."""
    check_ends(table, first, last)
    check_batches(batches)
    check_room(room)


def reach_from(ends, thing, batches):
    """How many ties the walks have at most that are looked at from a thing."""
    if thing in ends:
        return walk_reach(batches)
    return ring_reach(batches)


def is_too_heavy(table, ends, batches, room, walk):
    """Whether any value is a walk that shows that a room is not held."""
    first, last = ends
    if is_closed_walk(table, walk):
        passed = walk_things(table, walk)
        far = ring_reach(batches)
        if first in passed or last in passed:
            far = walk_reach(batches)
        return len(walk) <= far and walk_weight(table, walk) > 0
    if is_walk_between(table, first, last, walk):
        return len(walk) <= walk_reach(batches) and walk_weight(table, walk) > room
    if is_walk_between(table, last, first, walk):
        return len(walk) <= walk_reach(batches) and walk_weight(table, walk) > -room
    return False


def heavy_walks(table, ends, batches):
    """Walks of which one is too heavy, if any one is; some may be None."""
    first, last = ends
    most = ties_to_tell(table, batches)
    return [
        heaviest_walk(table, first, last, most),
        heaviest_walk(table, last, first, most),
        heaviest_ring(table, first, most),
        heaviest_ring(table, last, most),
        shortest_ring(table, ring_reach(batches)),
    ]


def room_paper(table, first, last, batches, room):
    """Some right paper."""
    check_all(table, first, last, batches, room)
    ends = first, last
    if holds_room(table, first, last, batches, room):
        things = range(len(table.things))
        return Roomy(tuple([layers_from(table, thing, reach_from(ends, thing, batches)) for thing in things]))
    walks = heavy_walks(table, ends, batches)
    right = [walk for walk in walks if walk is not None and is_too_heavy(table, ends, batches, room, walk)]
    return Heavy(right[0])


def is_row(count, value):
    """Whether any value is a row: an integer or None for each of so many things."""
    return is_tuple_of(value, count) and all([entry is None or is_integer(entry) for entry in value])


def are_layers(count, value):
    """Whether any value is a tuple of rows, not empty, for each of so many things."""
    if not is_tuple_of(value, count):
        return False
    for rows in value:
        if not isinstance(rows, tuple) or not rows or not all([is_row(count, row) for row in rows]):
            return False
    return True


def is_right_behind(table, row, behind):
    """Whether a row is right behind another one."""
    if any([is_below(entry, due) for entry, due in zip(behind, row)]):
        return False
    return not any([row[x] is not None and is_below(behind[y], row[x] + weight) for x, y, weight in table.ties])


def is_at_most(entry, most):
    """Whether an entry is None, or no more than an integer."""
    return entry is None or entry <= most


def bound_walks(table, rows, thing, reach):
    """Whether the last one of rows bounds all walks from a thing of at most so many ties, and allows no ring."""
    if is_below(rows[0][thing], 0):
        return False
    if not all([is_right_behind(table, rows[at], rows[at + 1]) for at in range(len(rows) - 1)]):
        return False
    last = rows[-1]
    return is_at_most(last[thing], 0) and (len(rows) > reach or is_right_behind(table, last, last))


def is_roomy(table, ends, batches, room, layers):
    """Whether any value is layers that show that a room is held."""
    if not are_layers(len(table.things), layers):
        return False
    for thing, rows in enumerate(layers):
        if not bound_walks(table, rows, thing, reach_from(ends, thing, batches)):
            return False
    first, last = ends
    return is_at_most(layers[first][-1][last], room) and is_at_most(layers[last][-1][first], -room)


def is_room_paper(table, first, last, batches, room, value):
    """Whether any value is a right paper."""
    check_all(table, first, last, batches, room)
    ends = first, last
    if isinstance(value, Roomy):
        return is_roomy(table, ends, batches, room, value.layers)
    return isinstance(value, Heavy) and is_too_heavy(table, ends, batches, room, value.walk)
