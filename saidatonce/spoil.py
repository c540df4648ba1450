"""Lots behind which no times are right."""

from saidatonce.errors import Refused
from saidatonce.held import bad_walk, check_both
from saidatonce.reach import walk_reach
from saidatonce.times import come
from saidatonce.walks import cut_walk, walk_ends


def parts_for(walk, batches):
    """The parts of a walk that is cut as far as the batches behind the first one reach."""
    far = walk_reach(batches[1:])
    return cut_walk(walk, tuple(range(far, len(walk), far)))


def new_ends(table, parts, here):
    """The lot of the ends of parts that are not here."""
    ends = [end for part in parts for end in walk_ends(table, part)]
    return tuple(sorted({end for end in ends if end not in here}))


def spoiling_lot(table, times, batches):
    """Some lot of the first batch for which no times are right."""
    check_both(table, times, batches)
    if not batches:
        raise Refused("batches")
    walk = bad_walk(table, times, batches)
    if walk is None:
        raise Refused("held")
    return new_ends(table, parts_for(walk, batches), come(times))
