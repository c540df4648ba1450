"""Forecasts: what may come at each call."""

from saidatonce.errors import InvalidNumber
from saidatonce.kinds import is_between, is_lot
from saidatonce.times import MOST_BATCHES, MOST_SIZE


def is_call(table, value):
    """Whether any value is a call: a lot of things, and how many of them come at most."""
    if not isinstance(value, tuple) or len(value) != 2:
        return False
    lot, number = value
    return is_lot(lot, len(table.things)) and is_between(number, 1, MOST_SIZE)


def are_calls(table, value):
    """Whether any value is a forecast."""
    if not isinstance(value, tuple) or len(value) > MOST_BATCHES:
        return False
    return all([is_call(table, call) for call in value])


def check_forecast(table, value):
    """Raises InvalidNumber for any value that is no forecast."""
    if not are_calls(table, value):
        raise InvalidNumber("forecast")


def plain_forecast(table, batches):
    """The forecast in which any things may come at each of some batches."""
    things = tuple(range(len(table.things)))
    return tuple([(things, size) for size in batches])


def numbers_of(forecast):
    """The numbers of the calls of a forecast."""
    return tuple([number for _, number in forecast])


def news_behind(forecast, call, thing):
    """The forecast without a thing of the lot of the call at an index."""
    lot, number = forecast[call]
    left = tuple([other for other in lot if other != thing])
    return forecast[:call] + ((left, number),) + forecast[call + 1:]
