"""The judge of runs, and of statements."""

from saidatonce.attacks import is_attack
from saidatonce.bounds import is_bound_paper
from saidatonce.commands import is_command
from saidatonce.court import is_verdict
from saidatonce.days import said
from saidatonce.deeds import is_deed
from saidatonce.forever import is_ever_paper
from saidatonce.held import is_held_paper
from saidatonce.kinds import is_between, is_integer, is_number
from saidatonce.pricepapers import is_refusal_paper
from saidatonce.refusals import are_prices
from saidatonce.room import are_ends
from saidatonce.roompapers import is_room_paper
from saidatonce.runs import NO, REFUSED, numbered_pairs, result_of, sheet_behind, tie_of
from saidatonce.sheets import is_sheet
from saidatonce.tables import Table, thing_number, with_tie
from saidatonce.times import are_batches, are_times, come

MOST_RUN_WEIGHT = 1000
MOST_RUN_TIME = 10 ** 8
MOST_COMMANDS = 60

# how far times that are answered may lie beyond all times said before, and 0
FARTHEST = 12000000


def is_alike(value, wanted):
    """Whether any value is the same as a wanted one, of the same kinds throughout."""
    if isinstance(wanted, tuple):
        if not isinstance(value, tuple) or len(value) != len(wanted):
            return False
        return all([is_alike(item, other) for item, other in zip(value, wanted)])
    if isinstance(wanted, str):
        return isinstance(value, str) and value == wanted
    if wanted is None:
        return value is None
    return is_between(value, wanted, wanted)


def is_near(times, value):
    """Whether any value is a time that is not too far from all times said before, and 0."""
    told = [times[thing] for thing in come(times)] + [0]
    return is_between(value, min(told) - FARTHEST, max(told) + FARTHEST)


def is_named_pair(times, name, value):
    """Whether any value is a pair of a name and a time that is not too far from the others."""
    return isinstance(value, tuple) and len(value) == 2 and is_alike(value[0], name) and is_near(times, value[1])


def is_right_said(sheet, names, value):
    """Whether any value can be the result that things with these names have got their times."""
    if not isinstance(value, tuple) or len(value) != 2 or not is_alike(value[0], "said"):
        return False
    pairs = value[1]
    if not isinstance(pairs, tuple) or len(pairs) != len(names):
        return False
    if not all([is_named_pair(sheet.times, name, pair) for name, pair in zip(sorted(names), pairs)]):
        return False
    return is_deed(sheet, ("say", numbered_pairs(sheet.table, pairs)))


def is_right_no(sheet, command, value):
    """Whether any value is a right paper that something asked for is not so."""
    if command[0] == "may":
        times = said(sheet.times, ((thing_number(sheet.table, command[1]), command[2]),))
        return is_held_paper(sheet.table, times, sheet.batches[1:], value)
    if command[0] == "bear":
        return is_held_paper(with_tie(sheet.table, tie_of(sheet, command)), sheet.times, sheet.batches, value)
    return is_attack(sheet.table, sheet.times, sheet.batches + (command[1],), value)


def is_right_pair(sheet, command, result, paper):
    """Whether any values are a result that a command can have, and a right paper for it."""
    wanted = result_of(sheet, command)
    if wanted == NO:
        return is_alike(result, wanted) and is_right_no(sheet, command, paper)
    if paper is not None:
        return False
    if command[0] == "answer" and wanted != REFUSED:
        return is_right_said(sheet, command[1], result)
    return is_alike(result, wanted)


def is_right_answer(sheet, command, value):
    """Whether any value is a right pair for a command."""
    return isinstance(value, tuple) and len(value) == 2 and is_right_pair(sheet, command, value[0], value[1])


def run_fault(sheet, commands, answers):
    """The number of the first of some answers, any value, that is not right, lacks or is too much, or None."""
    if not isinstance(answers, tuple):
        return 0
    for number, command in enumerate(commands):
        if number == len(answers) or not is_right_answer(sheet, command, answers[number]):
            return number
        sheet = sheet_behind(sheet, command, answers[number][0])
    if len(answers) > len(commands):
        return len(commands)
    return None


def is_run_sheet(value):
    """Whether any value is an open sheet with which commands can be run."""
    if not is_sheet(value):
        return False
    if not all([is_between(tie[2], -MOST_RUN_WEIGHT, MOST_RUN_WEIGHT) for tie in value.table.ties]):
        return False
    return all([is_between(value.times[thing], -MOST_RUN_TIME, MOST_RUN_TIME) for thing in come(value.times)])


def are_commands(value):
    """Whether any value is a tuple of commands that can be run."""
    return isinstance(value, tuple) and len(value) <= MOST_COMMANDS and all([is_command(item) for item in value])


def is_situation(table, times, batches):
    """Whether any values are a table, times of it, and batches."""
    return isinstance(table, Table) and are_times(table, times) and are_batches(batches)


def is_bound_so(table, most, paper):
    """Whether any values are a table, a number of ties, and a right paper for it."""
    return isinstance(table, Table) and is_number(most) and is_bound_paper(table, most, paper)


def is_court_so(table, batches, verdict):
    """Whether any values are a table, batches, and a right verdict."""
    return isinstance(table, Table) and are_batches(batches) and is_verdict(table, batches, verdict)


def is_held_so(table, times, batches, paper):
    """Whether any values are a table, times, batches, and a right paper whether they are held."""
    return is_situation(table, times, batches) and is_held_paper(table, times, batches, paper)


def is_attack_so(table, times, batches, attack):
    """Whether any values are a table, times, batches, and a right attack."""
    return is_situation(table, times, batches) and is_attack(table, times, batches, attack)


def is_room_so(table, ends, batches, room, paper):
    """Whether any values are a table, a pair of ends, batches, a room, and a right paper."""
    if not isinstance(table, Table) or not isinstance(ends, tuple) or len(ends) != 2:
        return False
    first, last = ends
    if not are_ends(table, first, last) or not are_batches(batches) or not is_integer(room):
        return False
    return is_room_paper(table, first, last, batches, room, paper)


def is_ever_so(table, times, paper):
    """Whether any values are a table, times, and a right paper whether all can be kept for ever."""
    return isinstance(table, Table) and are_times(table, times) and is_ever_paper(table, times, paper)


def is_refusal_so(table, times, batches, prices, paper):
    """Whether any values are a table, times, batches, prices, and a right paper for a price."""
    if not is_situation(table, times, batches) or not are_prices(table, prices):
        return False
    return is_refusal_paper(table, times, batches, prices, paper)


def is_pair_so(sheet, command, result, paper):
    """Whether any values are a sheet that can be run with, a command, and a right pair for it."""
    return is_run_sheet(sheet) and is_command(command) and is_right_pair(sheet, command, result, paper)


def is_run_so(sheet, commands, answers):
    """Whether any values are a sheet, commands that can be run with it, and answers without a fault."""
    return is_run_sheet(sheet) and are_commands(commands) and run_fault(sheet, commands, answers) is None


# for each word the number of the values behind it, and whether these are so
STATEMENTS = {
    "bound": (3, is_bound_so),
    "court": (3, is_court_so),
    "held": (4, is_held_so),
    "attack": (4, is_attack_so),
    "room": (5, is_room_so),
    "ever": (3, is_ever_so),
    "refusal": (5, is_refusal_so),
    "pair": (4, is_pair_so),
    "run": (3, is_run_so),
}


def is_so(value):
    """Whether any value is a statement, and what it says is so."""
    if not isinstance(value, tuple) or not value or not isinstance(value[0], str) or value[0] not in STATEMENTS:
        return False
    told = value[1:]
    many, check = STATEMENTS[value[0]]
    return len(told) == many and check(*told)


def not_so(values):
    """The lot of the numbers of those of some values that are not so."""
    return tuple([number for number, value in enumerate(values) if not is_so(value)])
