"""Attacks, played against what is said."""

from saidatonce.attacks import Attack, TieBroken
from saidatonce.days import said
from saidatonce.errors import Refused
from saidatonce.walks import walk_ends, walk_weight


def lot_of(attack):
    """The lot that comes, () at the end."""
    if isinstance(attack.tree, TieBroken):
        return ()
    return attack.tree.things


def is_too_heavy(table, times, walk):
    """Whether a walk weighs more than the times of its ends differ, which have come."""
    first, last = walk_ends(table, walk)
    if times[first] is None or times[last] is None:
        return False
    return walk_weight(table, walk) > times[last] - times[first]


def attack_behind(table, times, attack):
    """The attack that goes on behind times in which its lot is said."""
    if isinstance(attack.tree, TieBroken):
        raise Refused("end")
    for walk, tree in attack.tree.parts:
        if is_too_heavy(table, times, walk):
            return Attack(walk, tree)
    raise Refused("kept")


def beaten_by(table, times, attack, wishes):
    """The times behind an attack in which each thing gets its wish, and the number of the tie broken then."""
    while not isinstance(attack.tree, TieBroken):
        times = said(times, [(thing, wishes[thing]) for thing in lot_of(attack)])
        attack = attack_behind(table, times, attack)
    return times, attack.tree.tie
