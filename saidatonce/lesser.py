"""Lesser forecasts, hours by forecasts, and the news that would help."""

from saidatonce.days import ends_by_rows, keep_rows, said
from saidatonce.forecasts import news_behind
from saidatonce.foretold import are_held_by, call_rows, check_foretold, rows_behind
from saidatonce.ranges import check_thing, range_between
from saidatonce.times import missing


def fits_call(one, other):
    """Whether a call can be put onto another one."""
    return one[1] <= other[1] and all([thing in other[0] for thing in one[0]])


def is_lesser(one, other):
    """Whether each call of one forecast can be put onto a call of another one, in the same sequence."""
    done = 0
    for call in other:
        # to take the first call that fits leaves the most for those behind
        if done < len(one) and fits_call(one[done], call):
            done += 1
    return done == len(one)


def hours_by_forecast(table, times, forecast, thing):
    """The hours of a thing by a forecast, told as a pair, or None."""
    check_foretold(table, times, forecast)
    check_thing(table, thing)
    without = said(times, ((thing, None),))
    rows = rows_behind(table, forecast, missing(said(times, ((thing, 0),))))[0]
    if rows is None or rows[thing][thing] > 0 or not keep_rows(rows, without):
        return None
    least, greatest = ends_by_rows(rows, without, thing)
    return range_between(least, greatest)


def is_helped(times, forecast, found, call, thing):
    """Whether times are held if a thing does not come at a call; `found` is what `rows_behind` tells without this."""
    absent = missing(times)
    changed = news_behind(forecast, call, thing)
    rows = found[call + 1]
    for at in reversed(range(call + 1)):
        rows = call_rows(rows, changed[at], absent)
        # from rows that are the same on, None too, all goes as it went without the news
        if rows == found[at]:
            return False
    return keep_rows(rows, times)


def helpful_news(table, times, forecast):
    """For times that are not held, all pairs of a call and a thing without which there they are; () for held ones."""
    check_foretold(table, times, forecast)
    if are_held_by(table, times, forecast):
        return ()
    found = rows_behind(table, forecast, missing(times))
    news = []
    for call, (lot, _) in enumerate(forecast):
        behind = found[call + 1]
        # what is lost behind a call is not held by news of it
        if behind is not None and keep_rows(behind, times):
            news.extend([(call, thing) for thing in lot if is_helped(times, forecast, found, call, thing)])
    return tuple(news)
