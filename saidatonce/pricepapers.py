"""Papers that tell that no refusal is cheaper, and no strike has fewer ties."""

from saidatonce.clerk import is_missing_lot
from saidatonce.held import is_barring_missing, is_short
from saidatonce.kinds import is_lot, is_number
from saidatonce.refusals import BadWalks, cheapest_lot, check_prices, check_strikes, meet, parts_of, with_item


class PricePaper:
    """A price, and rows of lots that are cheaper, each with a walk past it."""

    def __init__(self, price, rows):
        self.price = price
        self.rows = rows


def paper_by(walks, prices):
    """Some right paper with the least price."""
    price, _, tried = cheapest_lot(walks, prices)
    rows = [(lot, tried[lot][1]) for lot in sorted(tried) if tried[lot][0] < price]
    return PricePaper(price, tuple(rows))


def refusal_paper(table, times, batches, prices):
    """Some right paper for the least price of a refusal."""
    check_prices(table, times, batches, prices)
    return paper_by(BadWalks(table, times, batches, False), prices)


def strike_paper(table, times, batches):
    """Some right paper for the fewest ties of a strike."""
    check_strikes(table, times, batches)
    return paper_by(BadWalks(table, times, batches, True), (1,) * len(table.ties))


def is_bad_walk(table, times, batches, value):
    """Whether any value is the walk of a right Short or Barred."""
    return is_short(table, times, batches, value) or is_barring_missing(table, times, batches, value)


def is_lot_of(table, times, of_ties, value):
    """Whether any value is a lot of ties, or of missing things."""
    if of_ties:
        return is_lot(value, len(table.ties))
    return is_missing_lot(times, value)


def is_right_row(table, times, batches, of_ties, value):
    """Whether any value is a pair of a lot and a walk past it that shows that times are not held."""
    if not isinstance(value, tuple) or len(value) != 2:
        return False
    lot, walk = value
    if not is_lot_of(table, times, of_ties, lot) or not is_bad_walk(table, times, batches, walk):
        return False
    return not meet(parts_of(table, times, of_ties, walk), lot)


def price_of(prices, lot):
    """The sum of the prices of a lot."""
    return sum([prices[item] for item in lot])


def go_on(table, times, of_ties, prices, paper):
    """Whether each lot of right rows, with a part of its walk, is one of a row again, or dear enough."""
    lots = {lot: True for lot, _ in paper.rows}
    for lot, walk in paper.rows:
        for part in parts_of(table, times, of_ties, walk):
            further = with_item(lot, part)
            if further not in lots and price_of(prices, further) < paper.price:
                return False
    return True


def is_price_paper(table, times, batches, prices, of_ties, value):
    """Whether any value is a right paper."""
    if not isinstance(value, PricePaper) or not is_number(value.price) or not isinstance(value.rows, tuple):
        return False
    rows = value.rows
    if not all([is_right_row(table, times, batches, of_ties, row) for row in rows]):
        return False
    if not all([rows[at][0] < rows[at + 1][0] for at in range(len(rows) - 1)]):
        return False
    # the least one of all lots is ()
    if value.price > 0 and (not rows or rows[0][0] != ()):
        return False
    return go_on(table, times, of_ties, prices, value)


def is_refusal_paper(table, times, batches, prices, value):
    """Whether any value is a right paper for a price of refusals."""
    return is_price_paper(table, times, batches, prices, False, value)


def is_strike_paper(table, times, batches, value):
    """Whether any value is a right paper for a number of ties of strikes."""
    return is_price_paper(table, times, batches, (1,) * len(table.ties), True, value)
