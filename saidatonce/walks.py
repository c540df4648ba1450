"""Walks: ties, each of which begins with the thing with which the one before ends."""

from saidatonce.kinds import are_below

LONGEST_WALK = 500


def is_walk(table, value):
    """Whether any value is a walk."""
    if not are_below(value, len(table.ties)) or len(value) > LONGEST_WALK:
        return False
    return all([table.ties[value[at]][1] == table.ties[value[at + 1]][0] for at in range(len(value) - 1)])


def walk_ends(table, walk):
    """The first and the last thing of a walk, None for the one without ties."""
    if not walk:
        return None
    return table.ties[walk[0]][0], table.ties[walk[-1]][1]


def is_walk_between(table, one, other, value):
    """Whether any value is a walk from one thing to another one, perhaps the same."""
    if not is_walk(table, value):
        return False
    if not value:
        return one == other
    return walk_ends(table, value) == (one, other)


def is_closed_walk(table, value):
    """Whether any value is a walk with a tie that ends with the thing with which it begins."""
    if not is_walk(table, value) or not value:
        return False
    first, last = walk_ends(table, value)
    return first == last


def walk_things(table, walk):
    """The things that a walk passes, from the first to the last."""
    if not walk:
        return ()
    return (table.ties[walk[0]][0],) + tuple([table.ties[number][1] for number in walk])


def walk_weight(table, walk):
    """The sum of the weights of the ties of a walk."""
    return sum([table.ties[number][2] for number in walk])


def cut_walk(walk, places):
    """The parts of a walk that is cut behind so many ties at each place."""
    begins = (0,) + places
    ends = places + (len(walk),)
    return tuple([walk[begin:end] for begin, end in zip(begins, ends)])


def unwound(table, walk):
    """A walk with the same ends that passes no thing twice, and the rings that were wound around it."""
    straight = []
    things = list(walk_things(table, walk)[:1])
    rings = []
    for number in walk:
        end = table.ties[number][1]
        straight.append(number)
        if end in things:
            at = things.index(end)
            rings.append(tuple(straight[at:]))
            straight = straight[:at]
            things = things[:at + 1]
        else:
            things.append(end)
    return tuple(straight), tuple(rings)
