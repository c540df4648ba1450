"""Ties that tell nothing, as walks of other ones weigh no less."""

from saidatonce.bounds import is_below
from saidatonce.days import said
from saidatonce.errors import Refused
from saidatonce.kinds import is_lot
from saidatonce.plans import plan_by
from saidatonce.squares import heaviest_walk
from saidatonce.steady import final_weights, has_ring
from saidatonce.tables import without_ties
from saidatonce.times import nothing_said
from saidatonce.walks import walk_weight


def check_ring(table):
    """Raises Refused if some closed walk has a weight above 0."""
    if has_ring(table):
        raise Refused("ring")


def walk_instead(table, tie):
    """Some walk without a tie that weighs no less, or None; no closed walk is above 0."""
    one, other, weight = table.ties[tie]
    others = without_ties(table, (tie,))
    walk = heaviest_walk(others, one, other, len(table.things))
    if walk is None or walk_weight(others, walk) < weight:
        return None
    return tuple([number + int(number >= tie) for number in walk])


def idle_walk(table, tie):
    """Some walk without a tie, with the same ends, that weighs no less, or None."""
    check_ring(table)
    return walk_instead(table, tie)


def idle_ties(table):
    """The lot of all idle ties."""
    check_ring(table)
    return tuple([tie for tie in range(len(table.ties)) if walk_instead(table, tie) is not None])


def ties_but(table, lot):
    """The lot of the ties that are not in a lot."""
    return tuple([tie for tie in range(len(table.ties)) if tie not in lot])


def core_ties(table):
    """Some core: as few ties as are needed for the same plans."""
    check_ring(table)
    core = list(range(len(table.ties)))
    # a tie that is not idle is not either behind fewer ties, so it is enough to ask for each of them once
    for tie in range(len(table.ties)):
        if walk_instead(without_ties(table, ties_but(table, core)), core.index(tie)) is not None:
            core.remove(tie)
    return tuple(core)


def is_core(table, value):
    """Whether any value is a core."""
    check_ring(table)
    if not is_lot(value, len(table.ties)):
        return False
    alone = without_ties(table, ties_but(table, value))
    return final_weights(alone) == final_weights(table) and idle_ties(alone) == ()


def plan_with(table, one, other, apart):
    """Some kept times of all things, of which two lie so far apart."""
    zeros = (0,) * len(table.things)
    return plan_by(table, said(nothing_said(table), ((one, 0), (other, apart))), zeros)


def breaking_plan(table, tie):
    """Some times of all things that break a tie and keep all others."""
    check_ring(table)
    if walk_instead(table, tie) is not None:
        raise Refused("idle")
    one, other, weight = table.ties[tie]
    return plan_with(without_ties(table, (tie,)), one, other, weight - 1)


def lighter_pair(rows, others):
    """The first pair of two things for which rows tell less than other ones, or None."""
    for one, row in enumerate(rows):
        for at, entry in enumerate(row):
            if is_below(entry, others[one][at]):
                return one, at
    return None


def plan_of_lighter(table, other):
    """Some times that are kept in a table and not in another one, or None."""
    rows = final_weights(table)
    others = final_weights(other)
    pair = lighter_pair(rows, others)
    if pair is None:
        return None
    one, last = pair
    apart = others[one][last] - 1
    if rows[last][one] is not None:
        apart = min(apart, -rows[last][one])
    return plan_with(table, one, last, apart)


def any_plan(table):
    """Some kept times of all things."""
    return plan_by(table, nothing_said(table), (0,) * len(table.things))


def telling_plan(table, other):
    """Some times of all things that are kept in just one of two tables, or None."""
    ringed = has_ring(table), has_ring(other)
    if ringed == (True, True):
        return None
    if ringed == (True, False):
        return any_plan(other)
    if ringed == (False, True):
        return any_plan(table)
    plan = plan_of_lighter(table, other)
    if plan is None:
        plan = plan_of_lighter(other, table)
    return plan
