"""Commands, and texts of them."""

from saidatonce.errors import InvalidText
from saidatonce.kinds import is_between, is_name

MOST_DIGITS = 7
DIGITS = "0123456789"

# the least and the greatest integer of each kind
BOUNDS = {"time": (-1000000, 1000000), "weight": (-1000, 1000), "size": (1, 100), "number": (0, 59)}

# what stands behind each word, but "answer", which has any names
FORMS = {
    "enter": ("name", "time"),
    "more": ("size",),
    "less": (),
    "tie": ("name", "name", "weight"),
    "untie": ("number",),
    "thing": ("name",),
    "name": ("name", "name"),
    "leave": ("name",),
    "times": (),
    "when": ("name",),
    "may": ("name", "time"),
    "bear": ("name", "name", "weight"),
    "promise": ("size",),
}


def is_item(kind, value):
    """Whether any value is one of a kind."""
    if kind == "name":
        return is_name(value)
    least, most = BOUNDS[kind]
    return is_between(value, least, most)


def are_any_names(value):
    """Whether any value is a tuple of names."""
    return isinstance(value, tuple) and all([is_name(name) for name in value])


def is_command(value):
    """Whether any value is a command."""
    if not isinstance(value, tuple) or not value or not isinstance(value[0], str):
        return False
    word = value[0]
    if word == "answer":
        return len(value) == 2 and are_any_names(value[1])
    if word not in FORMS or len(value) != len(FORMS[word]) + 1:
        return False
    return all([is_item(kind, item) for kind, item in zip(FORMS[word], value[1:])])


def is_numeral(mark):
    """Whether a string is a numeral of few enough digits."""
    if not 1 <= len(mark) <= MOST_DIGITS or not all([sign in DIGITS for sign in mark]):
        return False
    return mark == "0" or mark[0] != "0"


def read_item(mark):
    """The integer that a string tells, or the string itself, if it tells none."""
    if is_numeral(mark):
        return int(mark)
    if mark.startswith("-") and mark != "-0" and is_numeral(mark[1:]):
        return int(mark)
    return mark


def read_command(marks):
    """The command of the strings of a line, or None."""
    word = marks[0]
    if word == "answer":
        command = (word, tuple(marks[1:]))
    else:
        command = (word,) + tuple([read_item(mark) for mark in marks[1:]])
    if is_command(command):
        return command
    return None


def read_commands(text):
    """The commands of a text."""
    if not isinstance(text, str):
        raise InvalidText(-1, -1)
    commands = []
    for line, signs in enumerate(text.split("\n")):
        # no other sign than the blank parts what is in a line
        marks = [mark for mark in signs.split(" ") if mark != ""]
        if marks:
            command = read_command(marks)
            if command is None:
                raise InvalidText(line, 0)
            commands.append(command)
    return tuple(commands)


def show_command(command):
    """The line of a command."""
    items = command[1:]
    if command[0] == "answer":
        items = command[1]
    return " ".join([command[0]] + [str(item) for item in items])


def show_commands(commands):
    """The text of commands, one a line."""
    return "\n".join([show_command(command) for command in commands])
