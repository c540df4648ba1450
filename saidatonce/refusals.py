"""What to refuse, and which ties to strike, so that times are held."""

from heapq import heappop, heappush

from saidatonce.clerk import is_missing_lot
from saidatonce.days import is_kept
from saidatonce.errors import InvalidNumber, Refused
from saidatonce.held import are_held, bad_walk, check_both
from saidatonce.kinds import is_between, is_lot
from saidatonce.tables import ties_with, without_ties
from saidatonce.walks import walk_things

MOST_PRICE = 10 ** 6
MOST_TIES_TO_STRIKE = 12


def are_prices(table, value):
    """Whether any value is prices."""
    if not isinstance(value, tuple) or len(value) != len(table.things):
        return False
    return all([is_between(price, 0, MOST_PRICE) for price in value])


def check_prices(table, times, batches, prices):
    """Raises what is told for any values that are no times, no batches or no prices, and for a broken tie."""
    check_both(table, times, batches)
    if not are_prices(table, prices):
        raise InvalidNumber("prices")
    if not is_kept(table, times):
        raise Refused("broken")


def check_strikes(table, times, batches):
    """Raises what is told for any values that are no times or no batches, and for too many ties."""
    check_both(table, times, batches)
    if len(table.ties) > MOST_TIES_TO_STRIKE:
        raise Refused("size")


def with_item(lot, item):
    """A lot with a further item."""
    return tuple(sorted(lot + (item,)))


def is_part_of(one, other):
    """Whether all items of a lot are in another one."""
    return all([item in other for item in one])


def meet(one, other):
    """Whether two lots have an item in common."""
    return any([item in other for item in one])


def parts_of(table, times, of_ties, walk):
    """The lot of the ties of a walk, or of the missing things that it passes."""
    if of_ties:
        return tuple(sorted(set(walk)))
    return tuple(sorted({thing for thing in walk_things(table, walk) if times[thing] is None}))


class BadWalks:
    """Walks that show that times are not held, past lots of ties, or of missing things."""

    def __init__(self, table, times, batches, of_ties):
        self.table = table
        self.times = times
        self.batches = batches
        self.of_ties = of_ties
        # pairs of a walk and the lot of its parts
        self.found = []

    def struck_ties(self, lot):
        """The numbers of the ties that a lot takes away."""
        if self.of_ties:
            return lot
        return tuple(sorted({tie for thing in lot for tie in ties_with(self.table, thing)}))

    def walk_past(self, lot):
        """Some walk that passes nothing of a lot, or None if times are held without the lot."""
        struck = self.struck_ties(lot)
        walk = bad_walk(without_ties(self.table, struck), self.times, self.batches)
        if walk is None:
            return None
        left = [tie for tie in range(len(self.table.ties)) if tie not in struck]
        return tuple([left[number] for number in walk])

    def past(self, lot):
        """Some walk that passes nothing of a lot, with its parts, or None."""
        for pair in self.found:
            if not meet(pair[1], lot):
                return pair
        walk = self.walk_past(lot)
        if walk is None:
            return None
        pair = walk, parts_of(self.table, self.times, self.of_ties, walk)
        self.found.append(pair)
        return pair


def cheapest_lot(walks, prices):
    """The price of the cheapest lot past which no walk leads, the lot, and price and walk of each one tried before."""
    tried = {}
    queue = [(0, ())]
    while True:
        price, lot = heappop(queue)
        if lot not in tried:
            found = walks.past(lot)
            if found is None:
                return price, lot, tried
            walk, parts = found
            tried[lot] = price, walk
            # a lot past which no walk leads has one of the parts of this one
            for part in parts:
                heappush(queue, (price + prices[part], with_item(lot, part)))


def without_greater(lots, lean):
    """The lots within which there is none of some lean ones."""
    return [lot for lot in lots if not any([is_part_of(small, lot) for small in lean])]


def lean_lots(walks):
    """All lots past which no walk leads, and within which there is no other one."""
    lean = []
    lots = [()]
    # all lots of one size, then all of the next one
    while lots:
        greater = {}
        lots = without_greater(lots, lean)
        for lot in lots:
            found = walks.past(lot)
            if found is None:
                lean.append(lot)
            else:
                for part in found[1]:
                    greater[with_item(lot, part)] = True
        lots = list(greater)
    return tuple(sorted(lean))


def is_refusal(table, times, batches, value):
    """Whether any value is a refusal."""
    check_both(table, times, batches)
    if not is_missing_lot(times, value):
        return False
    return BadWalks(table, times, batches, False).walk_past(value) is None


def cheapest_refusal(table, times, batches, prices):
    """Some refusal with the least sum of prices."""
    check_prices(table, times, batches, prices)
    return cheapest_lot(BadWalks(table, times, batches, False), prices)[1]


def least_price(table, times, batches, prices):
    """The least sum of prices of a refusal."""
    check_prices(table, times, batches, prices)
    return cheapest_lot(BadWalks(table, times, batches, False), prices)[0]


def lean_refusals(table, times, batches):
    """All lean refusals."""
    check_both(table, times, batches)
    if not is_kept(table, times):
        return ()
    return lean_lots(BadWalks(table, times, batches, False))


def is_strike(table, times, batches, value):
    """Whether any value is a strike."""
    check_both(table, times, batches)
    if not is_lot(value, len(table.ties)):
        return False
    return are_held(without_ties(table, value), times, batches)


def fewest_strikes(table, times, batches):
    """The least number of ties of a strike."""
    check_strikes(table, times, batches)
    return cheapest_lot(BadWalks(table, times, batches, True), (1,) * len(table.ties))[0]


def lean_strikes(table, times, batches):
    """All strikes within which there is no other one."""
    check_strikes(table, times, batches)
    return lean_lots(BadWalks(table, times, batches, True))
