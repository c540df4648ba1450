"""Times held by a forecast, with papers for both."""

from saidatonce.bounds import is_below
from saidatonce.days import keep_rows
from saidatonce.forecasts import check_forecast
from saidatonce.held import Held
from saidatonce.kinds import are_below, is_between
from saidatonce.roomdays import adds_up
from saidatonce.squares import tie_rows
from saidatonce.tables import sharpest_tie
from saidatonce.times import check_times, come, missing

MOST_STEPS = 10000


class Lost:
    """The paper that times are not held by a forecast: steps, of which the last one is not met."""

    def __init__(self, steps):
        self.steps = steps


def check_foretold(table, times, forecast):
    """Raises InvalidTimes, or InvalidNumber, for any values that are no times, or no forecast."""
    check_times(table, times)
    check_forecast(table, forecast)


def passed_once_more(rows, single, lot):
    """The greatest sums of rows alone, or of rows to a thing of a lot and single rows from there."""
    behind = []
    for row in rows:
        best = list(row)
        for thing in lot:
            if row[thing] is not None:
                for other, weight in enumerate(single[thing]):
                    if weight is not None and (best[other] is None or row[thing] + weight > best[other]):
                        best[other] = row[thing] + weight
        behind.append(tuple(best))
    return tuple(behind)


def call_layers(single, lot, number):
    """For 0, 1, 2 and so on of a lot between, the greatest sums of so many single rows, and one more."""
    layers = [single]
    # if no ring of the lot is above 0, it is not worth while to pass a thing twice
    while len(layers) <= min(number, len(lot)):
        behind = passed_once_more(layers[-1], single, lot)
        if behind == layers[-1]:
            break
        layers.append(behind)
    return layers


def ring_thing(layers, lot, number):
    """A thing of a lot that is on a ring above 0 of at most so many rows, as few as can be, or None."""
    for rows in layers[:number]:
        for thing in lot:
            if rows[thing][thing] > 0:
                return thing
    return None


def lot_absent(call, absent):
    """The lot of the things of a call that are absent."""
    return tuple([thing for thing in call[0] if thing in absent])


def call_rows(rows, call, absent):
    """What times must differ by at a call, by what they must behind it; None if a ring of it is above 0."""
    lot = lot_absent(call, absent)
    layers = call_layers(rows, lot, call[1])
    if ring_thing(layers, lot, call[1]) is not None:
        return None
    return layers[-1]


def rows_behind(table, forecast, absent):
    """For each call, and behind them all, what times must differ by there; None from the last ring above 0 on."""
    found = [tie_rows(table)]
    for call in reversed(forecast):
        if found[-1] is None:
            found.append(None)
        else:
            found.append(call_rows(found[-1], call, absent))
    return found[::-1]


def are_held_by(table, times, forecast):
    """Whether times are held by a forecast; they are not checked."""
    rows = rows_behind(table, forecast, missing(times))[0]
    return rows is not None and keep_rows(rows, times)


def is_held_by(table, times, forecast):
    """Whether times are held by a forecast."""
    check_foretold(table, times, forecast)
    return are_held_by(table, times, forecast)


def things_along(layers, lot, between, one, other):
    """The things that are passed from one to another with the weight of a layer."""
    things = [other]
    for level in reversed(range(1, between + 1)):
        before = layers[level - 1][one]
        at = things[-1]
        weight = layers[level][one][at]
        if weight != before[at]:
            sums = [thing for thing in lot if adds_up(before[thing], layers[0][thing][at], weight)]
            things.append(sums[0])
    things.append(one)
    return things[::-1]


class StepMaker:
    """Steps that tell, one behind the other, why times must differ as they must by a forecast."""

    def __init__(self, table, forecast, absent):
        self.table = table
        self.forecast = forecast
        self.absent = absent
        self.rows = rows_behind(table, forecast, absent)
        self.found = []
        # the numbers of steps by call and ends
        self.known = {}

    def steps_along(self, call, one, other, least):
        """The pair of a call and steps that lead from one thing to another, past as few as weigh no less."""
        lot = lot_absent(self.forecast[call], self.absent)
        layers = call_layers(self.rows[call + 1], lot, self.forecast[call][1])
        heavy = [level for level, rows in enumerate(layers) if not is_below(rows[one][other], least)]
        things = things_along(layers, lot, heavy[0], one, other)
        return call, tuple([self.step_of(call + 1, things[at], things[at + 1]) for at in range(len(things) - 1)])

    def step_of(self, call, one, other):
        """The number of a step from one thing to another with the weight of a call."""
        many = len(self.forecast)
        while call < many and self.rows[call][one][other] == self.rows[call + 1][one][other]:
            call += 1
        if (call, one, other) not in self.known:
            if call == many:
                step = call, sharpest_tie(self.table, one, other)
            else:
                step = self.steps_along(call, one, other, self.rows[call][one][other])
            self.known[call, one, other] = len(self.found)
            self.found.append(step)
        return self.known[call, one, other]

    def add_ring(self, call):
        """Adds the steps of a ring above 0 of a call, behind which there is none."""
        lot = lot_absent(self.forecast[call], self.absent)
        number = self.forecast[call][1]
        thing = ring_thing(call_layers(self.rows[call + 1], lot, number), lot, number)
        self.found.append(self.steps_along(call, thing, thing, 1))


def unmet_pair(rows, times):
    """The first pair of things that have come and differ by less than rows tell, or None."""
    here = come(times)
    for one in here:
        for other in here:
            if rows[one][other] is not None and rows[one][other] > times[other] - times[one]:
                return one, other
    return None


def held_by(table, times, forecast):
    """Some right Held or Lost."""
    check_foretold(table, times, forecast)
    maker = StepMaker(table, forecast, missing(times))
    rings = [call for call in range(len(forecast)) if maker.rows[call] is None]
    if rings:
        maker.add_ring(rings[-1])
        return Lost(tuple(maker.found))
    pair = unmet_pair(maker.rows[0], times)
    if pair is None:
        return Held()
    maker.step_of(0, pair[0], pair[1])
    return Lost(tuple(maker.found))


def joined_steps(call, lot, parts):
    """What steps told tell together at a call, or None if they may not be put together there."""
    if any([part[0] <= call for part in parts]):
        return None
    for at in range(len(parts) - 1):
        if parts[at][2] != parts[at + 1][1] or parts[at][2] not in lot:
            return None
    return call, parts[0][1], parts[-1][2], sum([part[3] for part in parts])


def told_by(table, forecast, absent, told, value):
    """What any value tells as a step: its call, ends and weight, behind steps that told these; None if it is none."""
    if not isinstance(value, tuple) or len(value) != 2 or not is_between(value[0], 0, len(forecast)):
        return None
    call, inner = value
    if call == len(forecast):
        if not is_between(inner, 0, len(table.ties) - 1):
            return None
        return (call,) + table.ties[inner]
    # between so many steps is one thing less
    if not isinstance(inner, tuple) or not 1 <= len(inner) <= forecast[call][1] + 1:
        return None
    if not are_below(inner, len(told)):
        return None
    return joined_steps(call, lot_absent(forecast[call], absent), [told[number] for number in inner])


def is_unmet(times, forecast, step, tells):
    """Whether a step, which tells this, is not met by times, or is a ring of a call above 0."""
    call, one, other, weight = tells
    if times[one] is not None and times[other] is not None:
        return weight > times[other] - times[one]
    # the ends of a tie are unlike, so this is of a call
    if one != other or weight <= 0:
        return False
    lot, number = forecast[call]
    return one in lot and len(step[1]) <= number


def are_right_steps(table, times, forecast, steps):
    """Whether any value is the steps of a right Lost."""
    if not isinstance(steps, tuple) or not 1 <= len(steps) <= MOST_STEPS:
        return False
    absent = missing(times)
    told = []
    for step in steps:
        tells = told_by(table, forecast, absent, told, step)
        if tells is None:
            return False
        told.append(tells)
    return is_unmet(times, forecast, steps[-1], told[-1])


def is_forecast_paper(table, times, forecast, value):
    """Whether any value is a right Held or Lost."""
    check_foretold(table, times, forecast)
    if isinstance(value, Held):
        return are_held_by(table, times, forecast)
    return isinstance(value, Lost) and are_right_steps(table, times, forecast, value.steps)
