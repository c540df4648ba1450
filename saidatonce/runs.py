"""Runs: commands done one after another with an open sheet, by the names of things."""

from saidatonce.commands import read_commands
from saidatonce.deeds import is_deed, sheet_after
from saidatonce.edges import why_not
from saidatonce.errors import Refused
from saidatonce.halving import attack_on
from saidatonce.held import held
from saidatonce.promises import hour_deed, is_missing_thing, say_deed
from saidatonce.ranges import hours_of, is_hour
from saidatonce.room import are_ends
from saidatonce.tables import MOST_TIES, thing_number, with_tie
from saidatonce.times import MOST_BATCHES, come

REFUSED = ("refused",)
DID = ("did",)
YES = ("yes",)
NO = ("no",)


def yes_or_no(is_so):
    """The result that something is so, or that it isn't."""
    if is_so:
        return YES
    return NO


def named_pairs(table, pairs):
    """Pairs with the names of their things."""
    return tuple([(table.things[thing], time) for thing, time in pairs])


def numbered_pairs(table, pairs):
    """Pairs with the numbers of their things."""
    return tuple([(thing_number(table, name), time) for name, time in pairs])


def say_of(sheet, command):
    """The deed "say" of a command that lets things come; raises Refused if it can't be done."""
    if command[0] == "answer":
        # a thing that stands twice makes that it is no lot
        return say_deed(sheet, tuple(sorted([thing_number(sheet.table, name) for name in command[1]])))
    return hour_deed(sheet, thing_number(sheet.table, command[1]), command[2])


def deed_of(sheet, command):
    """The deed of another command; raises Refused for names that no thing has."""
    word = command[0]
    if word == "tie":
        return word, tie_of(sheet, command)
    if word == "name":
        return word, thing_number(sheet.table, command[1]), command[2]
    if word == "leave":
        return word, thing_number(sheet.table, command[1])
    return command


def tie_of(sheet, command):
    """The tie of a command; raises Refused for names that no thing has."""
    return thing_number(sheet.table, command[1]), thing_number(sheet.table, command[2]), command[3]


def hours_asked(sheet, command):
    """The hours of the thing of a command that comes alone next; raises Refused if it can't."""
    thing = thing_number(sheet.table, command[1])
    if not sheet.batches or not is_missing_thing(sheet.times, thing):
        raise Refused("thing")
    return hours_of(sheet.table, sheet.times, sheet.batches[1:], thing)


def can_bear(sheet, command):
    """Whether the tie of a command can be borne; raises Refused if there can't be such a tie."""
    tie = tie_of(sheet, command)
    if not are_ends(sheet.table, tie[0], tie[1]) or len(sheet.table.ties) == MOST_TIES:
        raise Refused("tie")
    return is_deed(sheet, ("tie", tie))


def can_promise(sheet, command):
    """Whether the batch of a command can be promised; raises Refused if there can't be so many."""
    if len(sheet.batches) == MOST_BATCHES:
        raise Refused("batches")
    return is_deed(sheet, ("more", command[1]))


def done(sheet, command):
    """The result of a command; raises Refused if it can't be done."""
    word = command[0]
    if word in ("answer", "enter"):
        return "said", named_pairs(sheet.table, say_of(sheet, command)[1])
    if word == "times":
        return word, named_pairs(sheet.table, [(thing, sheet.times[thing]) for thing in come(sheet.times)])
    if word == "when":
        least, greatest = hours_asked(sheet, command)
        return "hours", least, greatest
    if word == "may":
        return yes_or_no(is_hour(hours_asked(sheet, command), command[2]))
    if word == "bear":
        return yes_or_no(can_bear(sheet, command))
    if word == "promise":
        return yes_or_no(can_promise(sheet, command))
    if not is_deed(sheet, deed_of(sheet, command)):
        raise Refused("deed")
    return DID


def result_of(sheet, command):
    """The result of a command."""
    try:
        return done(sheet, command)
    except Refused:
        return REFUSED


def sheet_behind(sheet, command, result):
    """The sheet behind a command with a result."""
    if result[0] == "said":
        return sheet_after(sheet, ("say", numbered_pairs(sheet.table, result[1])))
    if result == DID:
        return sheet_after(sheet, deed_of(sheet, command))
    return sheet


def paper_for(sheet, command, result):
    """Some right paper for a result."""
    if result != NO:
        return None
    if command[0] == "may":
        thing = thing_number(sheet.table, command[1])
        return why_not(sheet.table, sheet.times, sheet.batches[1:], thing, command[2])
    if command[0] == "bear":
        return held(with_tie(sheet.table, tie_of(sheet, command)), sheet.times, sheet.batches)
    return attack_on(sheet.table, sheet.times, sheet.batches + (command[1],))


def run_commands(sheet, commands):
    """The results of commands done one after another."""
    results = []
    for command in commands:
        result = result_of(sheet, command)
        results.append(result)
        sheet = sheet_behind(sheet, command, result)
    return tuple(results)


def run_with_papers(sheet, commands):
    """For each command its result and a right paper."""
    answers = []
    for command in commands:
        result = result_of(sheet, command)
        answers.append((result, paper_for(sheet, command, result)))
        sheet = sheet_behind(sheet, command, result)
    return tuple(answers)


def sheet_of_run(sheet, commands, results):
    """The sheet behind commands with results."""
    for command, result in zip(commands, results):
        sheet = sheet_behind(sheet, command, result)
    return sheet


def shown_items(value):
    """What is shown of an item of a result."""
    if value is None:
        return ["-"]
    if isinstance(value, tuple):
        return [str(item) for pair in value for item in pair]
    return [str(value)]


def show_result(result):
    """The line of a result."""
    return " ".join([mark for item in result for mark in shown_items(item)])


def run_script(sheet, text):
    """The lines of the results of a text of commands."""
    return tuple([show_result(result) for result in run_commands(sheet, read_commands(text))])
