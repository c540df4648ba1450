"""Attacks on times that are not held: a walk that is too heavy, cut again and again."""

from saidatonce.attacks import Attack, Coming, TieBroken
from saidatonce.errors import Refused
from saidatonce.held import bad_walk, check_both
from saidatonce.limits import are_within, limits_of
from saidatonce.spoil import new_ends, parts_for
from saidatonce.times import come


def least_batches(table, times, batches):
    """The least number of the first batches for which times are not held, or None; they are not checked."""
    pair = limits_of(table, times)
    for many in range(len(batches) + 1):
        if not are_within(pair, batches[:many]):
            return many
    return None


def batches_needed(table, times, batches):
    """The least number of the first batches for which times are not held, or None if they are for all."""
    check_both(table, times, batches)
    return least_batches(table, times, batches)


def tree_on(table, walk, here, batches):
    """A tree for a walk that batches reach, when some things are here; it begins with a lot, but for a single tie."""
    if len(walk) == 1:
        return TieBroken(walk[0])
    parts = parts_for(walk, batches)
    lot = new_ends(table, parts, here)
    return Coming(lot, tuple([(part, tree_on(table, part, here + lot, batches[1:])) for part in parts]))


def attack_of(table, times, batches):
    """Some right attack that is as low as can be, or None if times are held; they are not checked."""
    many = least_batches(table, times, batches)
    if many is None:
        return None
    walk = bad_walk(table, times, batches[:many])
    return Attack(walk, tree_on(table, walk, come(times), batches[:many]))


def attack_on(table, times, batches):
    """Some right attack that is as low as can be."""
    check_both(table, times, batches)
    attack = attack_of(table, times, batches)
    if attack is None:
        raise Refused("held")
    return attack
