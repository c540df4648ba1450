"""Which batches are harder than others, and tables that tell them apart."""

from saidatonce.reach import ring_reach, walk_reach
from saidatonce.tables import MOST_THINGS, Table, plain_things
from saidatonce.times import check_batches, nothing_said

# tables of at most 12 things have no closed walk above 0 that is longer, but for such with a shorter one in it
LONGEST_RING = MOST_THINGS


def has_shorter_walks(one, other):
    """Whether a table tells that walks for one are shorter than for other."""
    return walk_reach(one) < walk_reach(other) and ring_reach(one) < LONGEST_RING - 1


def has_shorter_rings(one, other):
    """Whether a table tells that rings for one are shorter than for other."""
    return ring_reach(one) < ring_reach(other) and ring_reach(one) < LONGEST_RING


def check_both(one, other):
    """Raises InvalidNumber for any values of which one is no batches."""
    check_batches(one)
    check_batches(other)


def is_as_hard(one, other):
    """Whether all times that are held for one are held for other."""
    check_both(one, other)
    return not has_shorter_walks(one, other) and not has_shorter_rings(one, other)


def ring_table(count):
    """The table of a ring of so many things, with the weight 1."""
    return Table(plain_things(count), tuple([(at, (at + 1) % count, int(at == 0)) for at in range(count)]))


def lasso(ties, ring):
    """A table on which, from thing 0 back to it, walks of so many ties, but no shorter ones, are above 0.

    The others make a ring with the weight 1. From thing 0 it is entered at thing 1, and left behind a round and
    some ties more; without the round the way back weighs 0.
    """
    exit_at = ties - ring - 1
    around = tuple([(at, at + 1, 0) for at in range(1, ring)]) + ((ring, 1, 1),)
    return Table(plain_things(ring + 1), ((0, 1, 0),) + around + ((exit_at, 0, 0),))


def only_first_said(table):
    """The times when thing 0 alone has come."""
    return (0,) + nothing_said(table)[1:]


def telling_case(one, other):
    """Some table and times that are held for one and not for other, or None."""
    check_both(one, other)
    ties = walk_reach(one) + 1
    if has_shorter_walks(one, other):
        table = ring_table(ties) if ties <= MOST_THINGS else lasso(ties, ring_reach(one) + 1)
        return table, only_first_said(table)
    if has_shorter_rings(one, other):
        table = ring_table(ring_reach(one) + 1)
        return table, nothing_said(table)
    return None
