"""What it costs, in room, not to know what comes."""

from saidatonce.errors import InvalidNumber, Refused
from saidatonce.kinds import is_between
from saidatonce.layers import layers_from
from saidatonce.reach import ring_reach
from saidatonce.room import check_ends, check_room, holds_room
from saidatonce.steady import has_ring
from saidatonce.tables import MOST_WEIGHT, Table, plain_things

MOST_ROOMS = 11


def room_steps(table, first, last):
    """The numbers of things known together at which they need more room than one thing less, with this room."""
    check_ends(table, first, last)
    if has_ring(table):
        raise Refused("barred")
    # so many things are between the ends of a walk of one tie more
    rooms = [row[last] for row in layers_from(table, first, len(table.things))]
    return tuple([(at - 1, rooms[at]) for at in range(1, len(rooms)) if rooms[at] != rooms[at - 1]])


def last_held(table, first, last, room, harder):
    """The index of the last one of harder and harder batches for which a room is held, None if it is for any."""
    for at, batches in enumerate(harder):
        if not holds_room(table, first, last, batches, room):
            return at - 1
        # no longer ring is to be looked for, so if none bars these batches, none bars any
        if ring_reach(batches) >= len(table.things):
            return None
    return None


def most_orders(table, first, last, room):
    """The greatest number of orders one by one, and of things in one batch, for which a room is held."""
    check_ends(table, first, last)
    check_room(room)
    if not holds_room(table, first, last, (), room):
        raise Refused("room")
    count = len(table.things)
    one_by_one = [(1,) * many for many in range(count + 2)]
    together = [()] + [(many,) for many in range(1, count + 1)]
    return last_held(table, first, last, room, one_by_one), last_held(table, first, last, room, together)


def are_rooms(value):
    """Whether any value is rooms for more and more things known together."""
    if not isinstance(value, tuple) or not 1 <= len(value) <= MOST_ROOMS:
        return False
    told = [room for room in value if room is not None]
    if not all([is_between(room, -MOST_WEIGHT, MOST_WEIGHT) for room in told]):
        return False
    if any([room is not None for room in value[:len(value) - len(told)]]):
        return False
    return all([told[at] <= told[at + 1] for at in range(len(told) - 1)])


def table_with_rooms(rooms):
    """Some table in which so many things known together need these rooms from thing 0 to thing 1."""
    if not are_rooms(rooms):
        raise InvalidNumber("rooms")
    # thing 0 and a row of things behind it, each of which leads to thing 1 with its room
    row = [0] + list(range(2, len(rooms) + 1))
    along = [(row[at], row[at + 1], 0) for at in range(len(row) - 1)]
    across = [(thing, 1, room) for thing, room in zip(row, rooms) if room is not None]
    return Table(plain_things(len(rooms) + 1), tuple(along + across))
