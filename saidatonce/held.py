"""Whether times are held for batches, and papers for both."""

from saidatonce.court import Barred, is_barring
from saidatonce.limits import are_within, barring_ring, heavy_walk, limits_of
from saidatonce.playing import is_too_heavy
from saidatonce.reach import ring_reach, walk_reach
from saidatonce.times import check_batches, check_times
from saidatonce.walks import is_walk, walk_things


class Held:
    """The paper that times are held."""


class Short:
    """The paper that a walk is heavier than the times of its ends differ."""

    def __init__(self, walk):
        self.walk = walk


def check_both(table, times, batches):
    """Raises InvalidTimes, or InvalidNumber, for any values that are no times, or no batches."""
    check_times(table, times)
    check_batches(batches)


def are_held(table, times, batches):
    """Whether times are held for batches."""
    return are_within(limits_of(table, times), batches)


def is_held(table, times, batches):
    """Whether times are held for batches."""
    check_both(table, times, batches)
    return are_held(table, times, batches)


def paper_of(table, times, batches):
    """Some right Held, Short or Barred; times and batches are not checked."""
    walk = heavy_walk(table, times)
    if walk is not None and len(walk) <= walk_reach(batches):
        return Short(walk)
    ring = barring_ring(table, times)
    if ring is not None and len(ring) <= ring_reach(batches):
        return Barred(ring)
    return Held()


def bad_walk(table, times, batches):
    """The walk of some right Short, or of a Barred that begins with a missing thing; None if times are held."""
    paper = paper_of(table, times, batches)
    if isinstance(paper, Held):
        return None
    return paper.walk


def held(table, times, batches):
    """Some right Held, Short or Barred."""
    check_both(table, times, batches)
    return paper_of(table, times, batches)


def is_short(table, times, batches, value):
    """Whether any value is the walk of a right Short."""
    if not is_walk(table, value) or not 1 <= len(value) <= walk_reach(batches):
        return False
    return is_too_heavy(table, times, value)


def is_barring_missing(table, times, batches, value):
    """Whether any value is the walk of a right Barred."""
    if not is_barring(table, batches, value):
        return False
    return any([times[thing] is None for thing in walk_things(table, value)])


def is_held_paper(table, times, batches, value):
    """Whether any value is a right Held, Short or Barred."""
    if isinstance(value, Held):
        return are_held(table, times, batches)
    if isinstance(value, Short):
        return is_short(table, times, batches, value.walk)
    return isinstance(value, Barred) and is_barring_missing(table, times, batches, value.walk)
