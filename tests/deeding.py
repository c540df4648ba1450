"""Deeds by the words of point 74, and sheets with deeds to try on them."""

from saidatonce.sheets import Sheet
from saidatonce.tables import Table
from tests.slow import LETTERS, random_times, slow_held, with_times

NAMES = ("ab", "cup", "f", "zzzzzz", "a", "aa", "tea", "b", "bb", "c", "cc", "d", "e", "g", "hh")


def named(sheet):
    """A sheet told by names: times by names, ties by names, batches."""
    names = sheet.table.things
    times = dict(zip(names, sheet.times))
    return times, [(names[x], names[y], weight) for x, y, weight in sheet.table.ties], sheet.batches


def unnamed(times, ties, batches):
    """The sheet that is told by names."""
    names = tuple(sorted(times))
    table = Table(names, tuple((names.index(x), names.index(y), weight) for x, y, weight in ties))
    return Sheet(table, tuple(times[name] for name in names), batches)


def slow_after(sheet, deed):
    """The sheet behind a deed that has the form, by names."""
    times, ties, batches = named(sheet)
    names, word = sheet.table.things, deed[0]
    if word == "say":
        times = {**times, **{names[thing]: time for thing, time in deed[1]}}
        batches = batches[1:]
    if word == "more":
        batches = batches + (deed[1],)
    if word == "less":
        batches = batches[:-1]
    if word == "tie":
        ties = ties + [(names[deed[1][0]], names[deed[1][1]], deed[1][2])]
    if word == "untie":
        ties = ties[:deed[1]] + ties[deed[1] + 1:]
    if word == "thing":
        times = {**times, deed[1]: None}
    if word == "name":
        new = {name: deed[2] if number == deed[1] else name for number, name in enumerate(names)}
        times = {new[name]: time for name, time in times.items()}
        ties = [(new[x], new[y], weight) for x, y, weight in ties]
    if word == "leave":
        gone = names[deed[1]]
        times = {name: time for name, time in times.items() if name != gone}
        ties = [tie for tie in ties if gone not in tie[:2]]
    return unnamed(times, ties, batches)


def is_right_deed(sheet, deed):
    """Whether something that has the form of a deed, numbers and names within their bounds, can be done."""
    table, times, word = sheet.table, sheet.times, deed[0]
    count = len(table.things)
    if word == "say":
        things = [thing for thing, _ in deed[1]]
        form = sheet.batches and len(things) <= sheet.batches[0] and things == sorted(set(things))
        form = form and all(thing < count and times[thing] is None for thing in things)
        form = form and all(abs(time) <= 10 ** 9 for _, time in deed[1])
    elif word == "more":
        form = len(sheet.batches) < 60
    elif word == "less":
        form = bool(sheet.batches)
    elif word == "tie":
        form = len(table.ties) < 60 and deed[1][0] != deed[1][1] and max(deed[1][:2]) < count
    elif word == "untie":
        form = deed[1] < len(table.ties)
    elif word == "thing":
        form = count < 12 and deed[1] not in table.things
    elif word == "name":
        form = deed[1] < count and deed[2] not in table.things
    else:
        form = deed[1] < count and count > 1
    if not form:
        return False
    behind = slow_after(sheet, deed)
    return slow_held(behind.table, behind.times, behind.batches)


def random_deed(chance, sheet):
    """Something that has the form of a deed, perhaps one that can't be done."""
    count = len(sheet.table.things)
    word = chance.choice(("say", "say", "more", "less", "tie", "untie", "thing", "name", "leave"))
    thing = chance.randint(0, count)
    if word == "say":
        lot = sorted(chance.sample(range(count), min(count, chance.randint(0, 3))))
        return word, tuple((at, chance.randint(-4, 8)) for at in lot)
    if word == "more":
        return word, chance.choice((1, 1, 2, 100))
    if word == "less":
        return (word,)
    if word == "tie":
        return word, (thing, chance.randint(0, count), chance.randint(-5, 2))
    if word == "untie":
        return word, chance.randint(0, 3)
    if word == "thing":
        return word, chance.choice(NAMES)
    if word == "name":
        return word, thing, chance.choice(NAMES)
    return word, thing


def random_sheet(chance, table):
    """Some open sheet of a table, or None."""
    times = random_times(chance, table, 6, 3)
    batches = tuple(chance.choice((1, 1, 2, 3)) for _ in range(chance.randint(0, 3)))
    if slow_held(table, times, batches):
        return Sheet(table, times, batches)
    return None


def row_sheet(count, batches=(1, 1)):
    """A row of so many things, on which nothing has come."""
    table = Table(tuple(LETTERS[:count]), tuple((at, at + 1, 1) for at in range(count - 1)))
    return Sheet(table, (None,) * count, batches)


def said_on(sheet, lot, told):
    """A sheet with other times."""
    return Sheet(sheet.table, with_times(sheet.times, lot, told), sheet.batches)
