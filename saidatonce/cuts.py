"""Cuts of so many orders into so many batches."""

from math import comb

from saidatonce.errors import InvalidNumber, Refused
from saidatonce.kinds import is_between

MOST_ORDERS = 60
MOST_CUTS = 500


def check_orders(orders):
    """Raises InvalidNumber for any value that is no number of orders."""
    if not is_between(orders, 1, MOST_ORDERS):
        raise InvalidNumber("orders")


def check_cut(orders, many):
    """Raises InvalidNumber for any values that are no numbers of orders and of batches to cut them into."""
    check_orders(orders)
    if not is_between(many, 1, orders):
        raise InvalidNumber("many")


def cuts_into(orders, many):
    """The list of all cuts, ascending."""
    if many == 1:
        return [(orders,)]
    firsts = range(1, orders - many + 2)
    return [(first,) + others for first in firsts for others in cuts_into(orders - first, many - 1)]


def all_cuts(orders, many):
    """All cuts of so many orders into so many batches, ascending."""
    check_cut(orders, many)
    if comb(orders - 1, many - 1) > MOST_CUTS:
        raise Refused("size")
    return tuple(cuts_into(orders, many))


def best_cut(orders, many):
    """A cut for which clerks look at the fewest ties."""
    check_cut(orders, many)
    if many == 1:
        return (orders,)
    return (1, orders - many + 1) + (1,) * (many - 2)


def worst_cut(orders, many):
    """A cut for which clerks look at the most ties."""
    check_cut(orders, many)
    size, greater = divmod(orders, many)
    return (size + 1,) * greater + (size,) * (many - greater)
