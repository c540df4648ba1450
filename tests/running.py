"""Runs by the words of point 79, and commands to try."""

from saidatonce.days import said
from saidatonce.sheets import Sheet
from saidatonce.tables import Table
from tests.deeding import NAMES, is_right_deed, slow_after
from tests.slow import slow_held

FAR = 10 ** 7


def names_of(command):
    """The names of things that a command tells, but new ones."""
    word = command[0]
    if word == "answer":
        return command[1]
    if word in ("enter", "when", "may", "leave"):
        return command[1:2]
    if word in ("tie", "bear"):
        return command[1:3]
    return command[1:2] if word == "name" else ()


def is_refused(sheet, command):
    """Whether a command is refused, by the words of the document."""
    things, word = sheet.table.things, command[0]
    names = names_of(command)
    if any(name not in things for name in names):
        return True
    if word in ("answer", "enter", "when", "may"):
        if not sheet.batches or len(set(names)) < len(names) or len(names) > sheet.batches[0]:
            return True
        return any(sheet.times[things.index(name)] is not None for name in names)
    if word == "bear":
        return len(set(names)) < 2 or len(sheet.table.ties) == 60
    if word == "promise":
        return len(sheet.batches) == 60
    return word != "times" and not is_right_deed(sheet, deed_of(sheet, command))


def deed_of(sheet, command):
    """The deed of a command that lets nothing come."""
    word, numbers = command[0], [sheet.table.things.index(name) for name in names_of(command)]
    if word == "tie":
        return word, (numbers[0], numbers[1], command[3])
    if word in ("name", "leave"):
        return (word, numbers[0]) + command[2:]
    return command


def said_on(sheet, pairs):
    """The sheet behind pairs with names."""
    return slow_after(sheet, ("say", tuple((sheet.table.things.index(name), time) for name, time in pairs)))


def holds_with(sheet, name, time):
    """Whether a thing can get a time that comes alone next."""
    thing = sheet.table.things.index(name)
    return slow_held(sheet.table, said(sheet.times, ((thing, time),)), sheet.batches[1:])


def is_right_result(sheet, command, result):
    """Whether something can be the result of a command, by the words of the document."""
    word = command[0]
    if is_refused(sheet, command):
        return result == ("refused",)
    if word == "answer":
        told = [time for time in sheet.times if time is not None] + [0]
        near = all(min(told) - 12 * 10 ** 6 <= time <= max(told) + 12 * 10 ** 6 for _, time in result[1])
        behind = said_on(sheet, result[1])
        names = tuple(name for name, _ in result[1])
        held = slow_held(behind.table, behind.times, behind.batches)
        return result[0] == "said" and names == tuple(sorted(command[1])) and near and held
    if word == "enter":
        ((name, time),) = result[1]
        step = (command[2] > time) - (command[2] < time)
        nearer = step != 0 and holds_with(sheet, name, time + step)
        return result[0] == "said" and name == command[1] and holds_with(sheet, name, time) and not nearer
    if word == "times":
        pairs = tuple((name, time) for name, time in zip(sheet.table.things, sheet.times) if time is not None)
        return result == ("times", pairs)
    if word == "when":
        _, least, greatest = result
        inside = [-FAR if least is None else least, FAR if greatest is None else greatest]
        outside = [end + by for end, by in ((least, -1), (greatest, 1)) if end is not None]
        return result[0] == "hours" and all(holds_with(sheet, command[1], hour) for hour in inside) and not any(
            holds_with(sheet, command[1], hour) for hour in outside
        )
    if word == "may":
        return result == (("yes",) if holds_with(sheet, command[1], command[2]) else ("no",))
    if word in ("bear", "promise"):
        behind = harder(sheet, command)
        return result == (("yes",) if slow_held(behind.table, behind.times, behind.batches) else ("no",))
    return result == ("did",)


def harder(sheet, command):
    """The sheet with the tie or the batch of a command that asks for one."""
    if command[0] == "promise":
        return Sheet(sheet.table, sheet.times, sheet.batches + (command[1],))
    tie = tuple(sheet.table.things.index(name) for name in command[1:3]) + command[3:]
    return Sheet(Table(sheet.table.things, sheet.table.ties + (tie,)), sheet.times, sheet.batches)


def sheet_behind(sheet, command, result):
    """The sheet behind a command with a result, by the words of the document."""
    if result[0] == "said":
        return said_on(sheet, result[1])
    if result == ("did",):
        return slow_after(sheet, deed_of(sheet, command))
    return sheet


def random_command(chance, sheet):
    """Some command, perhaps one that is refused."""
    names = list(sheet.table.things) + [chance.choice(NAMES)]
    word = chance.choice((
        "answer", "answer", "enter", "enter", "more", "more", "less", "tie", "untie", "thing", "name", "leave", "times",
        "when", "when", "may", "may", "bear", "bear", "promise", "promise",
    ))
    name, other, time = chance.choice(names), chance.choice(names), chance.randint(-6, 9)
    if word == "answer":
        return word, tuple(chance.choice(names) for _ in range(chance.choice((0, 1, 1, 2, 3))))
    if word in ("enter", "may"):
        return word, name, chance.choice((time, time, time, 10 ** 6, -10 ** 6))
    if word in ("more", "promise"):
        return word, chance.choice((1, 1, 2, 100))
    if word in ("tie", "bear"):
        return word, name, other, chance.choice((chance.randint(-9, 3), -1000, 1000))
    if word == "untie":
        return word, chance.randint(0, 4)
    if word == "thing":
        return word, other
    if word == "name":
        return word, name, other if chance.random() < 0.3 else chance.choice(NAMES)
    return (word, name) if word in ("leave", "when") else (word,)
