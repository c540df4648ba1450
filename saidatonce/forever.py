"""What can be kept for ever, with papers for both."""

from saidatonce.court import Barred
from saidatonce.held import Short
from saidatonce.limits import heavy_walk
from saidatonce.plans import is_plan, plan_by
from saidatonce.playing import is_too_heavy
from saidatonce.steady import shortest_ring
from saidatonce.walks import is_closed_walk, is_walk, walk_weight


class Ever:
    """The paper that some clerk keeps all ties for ever: a plan."""

    def __init__(self, plan):
        self.plan = plan


def any_plan_for(table, times):
    """Some plan for times, or None."""
    return plan_by(table, times, (0,) * len(times))


def can_for_ever(table, times):
    """Whether some clerk keeps all ties for ever."""
    return any_plan_for(table, times) is not None


def for_ever(table, times):
    """Some right Ever, Short or Barred."""
    plan = any_plan_for(table, times)
    if plan is not None:
        return Ever(plan)
    ring = shortest_ring(table, len(table.things))
    if ring is not None:
        return Barred(ring)
    return Short(heavy_walk(table, times))


def is_ever_paper(table, times, value):
    """Whether any value is a right Ever, or a Short or Barred that is right for ever."""
    if isinstance(value, Ever):
        return is_plan(table, times, value.plan)
    if isinstance(value, Short):
        walk = value.walk
        return is_walk(table, walk) and len(walk) > 0 and is_too_heavy(table, times, walk)
    if isinstance(value, Barred):
        return is_closed_walk(table, value.walk) and walk_weight(table, value.walk) > 0
    return False
