"""How far apart two things that have come must, and may, lie."""

from saidatonce.errors import InvalidNumber, Refused
from saidatonce.kinds import is_between, is_integer
from saidatonce.reach import ring_reach, walk_reach
from saidatonce.squares import rows_within
from saidatonce.steady import shortest_ring
from saidatonce.times import check_batches


def are_ends(table, first, last):
    """Whether any values are two unlike numbers of things."""
    most = len(table.things) - 1
    return is_between(first, 0, most) and is_between(last, 0, most) and first != last


def check_ends(table, first, last):
    """Raises InvalidNumber for any values that are no two unlike numbers of things."""
    if not are_ends(table, first, last):
        raise InvalidNumber("ends")


def check_room(room):
    """Raises InvalidNumber for any value that is no room."""
    if not is_integer(room):
        raise InvalidNumber("room")


def ties_to_tell(table, batches):
    """How many ties walks have at most that tell of a room."""
    return min(walk_reach(batches), 2 * len(table.things))


def turned_weight(weight):
    """A weight with the other sign, None for none."""
    if weight is None:
        return None
    return -weight


def rooms_held(table, first, last, batches):
    """The pair of the least and the greatest room that is held, None for an open end, or None for no room at all."""
    rows = rows_within(table, ties_to_tell(table, batches))
    if rows[first][first] > 0 or rows[last][last] > 0:
        return None
    if shortest_ring(table, ring_reach(batches)) is not None:
        return None
    least = rows[first][last]
    greatest = turned_weight(rows[last][first])
    if least is not None and greatest is not None and least > greatest:
        return None
    return least, greatest


def room_for(table, first, last, batches):
    """The pair of the least and the greatest room that is held, None for one without bound."""
    check_ends(table, first, last)
    check_batches(batches)
    ends = rooms_held(table, first, last, batches)
    if ends is None:
        raise Refused("barred")
    return ends


def holds_room(table, first, last, batches, room):
    """Whether an integer is a room that is held."""
    ends = rooms_held(table, first, last, batches)
    if ends is None:
        return False
    least, greatest = ends
    return (least is None or least <= room) and (greatest is None or room <= greatest)


def is_room(table, first, last, batches, room):
    """Whether a room is held."""
    check_ends(table, first, last)
    check_batches(batches)
    check_room(room)
    return holds_room(table, first, last, batches, room)
