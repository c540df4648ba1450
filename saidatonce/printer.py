"""Texts of tables, times, days, batches and lots, shown."""

from saidatonce.times import come


def show_items(items):
    """Some names and integers, with single blanks."""
    return " ".join([str(item) for item in items])


def show_pairs(table, pairs):
    """The names and times of pairs."""
    return show_items([item for thing, time in pairs for item in (table.things[thing], time)])


def show_table(table):
    """The text of a table: the things without ties, then the ties."""
    tied = [thing for tie in table.ties for thing in tie[:2]]
    alone = [name for thing, name in enumerate(table.things) if thing not in tied]
    ties = [show_items([table.things[x], table.things[y], weight]) for x, y, weight in table.ties]
    return "\n".join(alone + ties)


def show_times(table, times):
    """The text of times."""
    return "\n".join([show_pairs(table, [(thing, times[thing])]) for thing in come(times)])


def show_day(table, day):
    """The text of a day, a line for each batch."""
    return "\n".join([show_pairs(table, batch) for batch in day])


def show_batches(batches):
    """The text of batches."""
    return show_items(batches)


def show_lot(table, lot):
    """The text of a lot."""
    return show_items([table.things[thing] for thing in lot])
