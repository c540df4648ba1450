"""Slow ways for forecasts: whole games, and least differences step by step."""

from tests.odd import keeps
from tests.slow import here_things, lots_of, missing_things, moved_to_0, slow_rows, window, with_times

import itertools


def forecast_keeps(table, times, forecast, wider=0, known=None):
    """Whether some clerk can keep all ties, by playing the whole game with all times in the window, or a wider one."""
    if known is None:
        known = {}
    if not keeps(table, times):
        return False
    if not forecast:
        return True
    key = moved_to_0(times), len(forecast)
    if key not in known:
        lot, number = forecast[0]
        free = [thing for thing in missing_things(times) if thing in lot]
        low, high = window(table, times)
        known[key] = all(
            any(
                forecast_keeps(table, with_times(times, coming, told), forecast[1:], wider, known)
                for told in itertools.product(range(low - wider, high + wider + 1), repeat=len(coming))
            )
            for coming in lots_of(free, number)
        )
    return known[key]


def greater(one, other):
    if one is None or other is None:
        return one if other is None else other
    return max(one, other)


def sequences_rows(rows, lot, most):
    """The greatest sums of at least one and at most so many rows, with things of a lot between."""
    count = len(rows)
    found = [list(row) for row in rows]
    last = [list(row) for row in rows]
    for _ in range(most - 1):
        behind = [[None] * count for _ in range(count)]
        for one in range(count):
            for between in lot:
                for other in range(count):
                    if last[one][between] is not None and rows[between][other] is not None:
                        behind[one][other] = greater(behind[one][other], last[one][between] + rows[between][other])
        last = behind
        found = [[greater(x, y) for x, y in zip(row, further)] for row, further in zip(found, last)]
    return found


def slow_held_by(table, times, forecast):
    """Whether times are held by a forecast, by the last sentences of point 59."""
    rows = slow_rows(table, 1)
    absent = missing_things(times)
    for lot, number in reversed(forecast):
        free = [thing for thing in lot if thing in absent]
        # more of them than there are tell nothing, if no ring of them is above 0
        around = sequences_rows(rows, free, min(number, 13))
        if any(around[thing][thing] > 0 for thing in free):
            return False
        rows = sequences_rows(rows, free, min(number, 13) + 1)
    here = here_things(times)
    return all(
        rows[one][other] is None or rows[one][other] <= times[other] - times[one] for one in here for other in here
    )


def random_forecast(chance, table, calls, most=3):
    """Some forecast of a table with at most so many calls."""
    things = range(len(table.things))
    found = []
    for _ in range(chance.randint(0, calls)):
        lot = tuple(thing for thing in things if chance.random() < 0.6)
        found.append((lot, chance.choice((1, 1, 2, most))))
    return tuple(found)
