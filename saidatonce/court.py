"""The court: whether all ties can be kept from nothing, and papers for both."""

from saidatonce.bounds import bound_paper, is_bound_paper
from saidatonce.errors import Refused
from saidatonce.reach import ring_reach
from saidatonce.steady import shortest_ring
from saidatonce.times import check_batches
from saidatonce.walks import is_closed_walk, walk_weight


class Safe:
    """The verdict that all ties can be kept."""


class Barred:
    """The verdict that a closed walk bars this."""

    def __init__(self, walk):
        self.walk = walk


def court(table, batches):
    """Safe(), or some Barred whose walk has the fewest ties."""
    check_batches(batches)
    walk = shortest_ring(table, ring_reach(batches))
    if walk is None:
        return Safe()
    return Barred(walk)


def is_safe(table, batches):
    """Whether no closed walk bars that all ties are kept."""
    check_batches(batches)
    return shortest_ring(table, ring_reach(batches)) is None


def is_barring(table, batches, value):
    """Whether any value is a closed walk above 0 that is short enough for batches."""
    if not is_closed_walk(table, value) or len(value) > ring_reach(batches):
        return False
    return walk_weight(table, value) > 0


def is_verdict(table, batches, value):
    """Whether any value is a right verdict."""
    if isinstance(value, Safe):
        return shortest_ring(table, ring_reach(batches)) is None
    return isinstance(value, Barred) and is_barring(table, batches, value.walk)


def ties_to_look(table, batches):
    """How many ties a paper that a table is safe tells of."""
    return min(ring_reach(batches), len(table.things))


def safe_paper(table, batches):
    """Some paper that a table is safe for batches."""
    if not is_safe(table, batches):
        raise Refused("barred")
    return bound_paper(table, ties_to_look(table, batches))


def is_safe_paper(table, batches, value):
    """Whether any value is a paper that a table is safe for batches."""
    if not is_bound_paper(table, ties_to_look(table, batches), value):
        return False
    return all([row[thing] == 0 for thing, row in enumerate(value.rows[-1])])
