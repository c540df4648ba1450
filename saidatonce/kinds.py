"""Kinds of values that several modules ask for."""

LONGEST_NAME = 6


def is_integer(value):
    """Whether any value is an integer."""
    return isinstance(value, int) and not isinstance(value, bool)


def is_number(value):
    """Whether any value is a number: an integer from 0 on."""
    return is_integer(value) and value >= 0


def is_between(value, least, most):
    """Whether any value is an integer between two others, or one of them."""
    return is_integer(value) and least <= value <= most


def is_name(value):
    """Whether any value is a name."""
    if not isinstance(value, str) or not 1 <= len(value) <= LONGEST_NAME:
        return False
    return all(["a" <= sign <= "z" for sign in value])
