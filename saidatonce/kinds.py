"""Kinds of values that several modules ask for."""

LONGEST_NAME = 6


def is_integer(value):
    """Whether any value is an integer."""
    return isinstance(value, int) and not isinstance(value, bool)


def is_number(value):
    """Whether any value is a number: an integer from 0 on."""
    return is_integer(value) and value >= 0


def is_between(value, least, most):
    """Whether any value is an integer between two others, or one of them."""
    return is_integer(value) and least <= value <= most


def is_name(value):
    """Whether any value is a name."""
    if not isinstance(value, str) or not 1 <= len(value) <= LONGEST_NAME:
        return False
    return all(["a" <= sign <= "z" for sign in value])


def are_below(value, count):
    """Whether any value is a tuple of numbers below a count."""
    return isinstance(value, tuple) and all([is_between(number, 0, count - 1) for number in value])


def is_lot(value, count):
    """Whether any value is a lot of numbers below a count."""
    if not are_below(value, count):
        return False
    return all([value[at] < value[at + 1] for at in range(len(value) - 1)])
