"""Attacks: what comes, by what was said so far, until a tie is broken."""

from saidatonce.kinds import is_integer, is_lot
from saidatonce.times import check_batches, check_times, come
from saidatonce.walks import is_walk, walk_ends, walk_weight


class TieBroken:
    """The end of an attack: the tie with a number is broken."""

    def __init__(self, tie):
        self.tie = tie


class Coming:
    """A lot of things comes next; `parts` are pairs of a part of the walk and the tree for it."""

    def __init__(self, things, parts):
        self.things = things
        self.parts = parts


class Attack:
    """A walk that weighs too much, and the tree that shows it."""

    def __init__(self, walk, tree):
        self.walk = walk
        self.tree = tree


def is_walk_with_tie(table, value):
    """Whether any value is a walk with a tie."""
    return is_walk(table, value) and len(value) > 0


def are_parts(table, walk, here, value):
    """Whether any value is pairs of a part of a walk, with ends that are here, and something, all parts one by one."""
    if not isinstance(value, tuple):
        return False
    done = 0
    for pair in value:
        if not isinstance(pair, tuple) or len(pair) != 2:
            return False
        part = pair[0]
        if not is_walk_with_tie(table, part) or walk[done:done + len(part)] != part:
            return False
        if not all([end in here for end in walk_ends(table, part)]):
            return False
        done += len(part)
    return done == len(walk)


def is_tree(table, walk, here, batches, value):
    """Whether any value is a right tree for a walk with a tie, the things that are here, and batches."""
    if isinstance(value, TieBroken):
        return is_integer(value.tie) and walk == (value.tie,)
    if not isinstance(value, Coming) or not batches:
        return False
    if not is_lot(value.things, len(table.things)) or len(value.things) > batches[0]:
        return False
    if any([thing in here for thing in value.things]):
        return False
    present = here + value.things
    if not are_parts(table, walk, present, value.parts):
        return False
    return all([is_tree(table, part, present, batches[1:], tree) for part, tree in value.parts])


def weighs_too_much(table, times, attack):
    """Whether the walk of an attack weighs more than its ends differ, or is a ring above 0 that is to come."""
    first, last = walk_ends(table, attack.walk)
    weight = walk_weight(table, attack.walk)
    if times[first] is not None and times[last] is not None:
        return weight > times[last] - times[first]
    return first == last and weight > 0 and isinstance(attack.tree, Coming)


def is_attack(table, times, batches, value):
    """Whether any value is a right attack on times for batches."""
    check_times(table, times)
    check_batches(batches)
    if not isinstance(value, Attack) or not is_walk_with_tie(table, value.walk):
        return False
    if not weighs_too_much(table, times, value):
        return False
    return is_tree(table, value.walk, come(times), batches, value.tree)
