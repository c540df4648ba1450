"""Papers that show how heavy walks of at most so many ties can be."""

from saidatonce.kinds import are_below, is_between, is_integer
from saidatonce.squares import joined_rows, still_rows, tie_rows


class BoundPaper:
    """Steps, each of some ties or of two earlier steps together, and rows for each of them."""

    def __init__(self, steps, rows):
        self.steps = steps
        self.rows = rows


def bound_paper(table, most):
    """A right paper whose last rows are the greatest weights for a number of ties."""
    if most == 0:
        return BoundPaper((0,), (still_rows(table),))
    steps = [1]
    rows = [tie_rows(table)]
    for place in reversed(range(most.bit_length() - 1)):
        last = len(steps) - 1
        steps.append((last, last))
        rows.append(joined_rows(rows[last], rows[last]))
        if most >> place & 1:
            steps.append((last + 1, 0))
            rows.append(joined_rows(rows[last + 1], rows[0]))
    return BoundPaper(tuple(steps), tuple(rows))


def is_tuple_of(value, length):
    """Whether any value is a tuple of so many items."""
    return isinstance(value, tuple) and len(value) == length


def are_rows(count, value):
    """Whether any value is rows for so many things."""
    if not is_tuple_of(value, count) or not all([is_tuple_of(row, count) for row in value]):
        return False
    return all([entry is None or is_integer(entry) for row in value for entry in row])


def is_step(value, number):
    """Whether any value is the step with a number."""
    return is_between(value, 0, 1) or is_tuple_of(value, 2) and are_below(value, number)


def ties_of_step(step, ties):
    """How many ties a step has, behind steps with so many."""
    if is_integer(step):
        return step
    one, other = step
    return ties[one] + ties[other]


def due_rows(table, step, rows):
    """What is due for a step, behind steps with these rows."""
    if step == 0:
        return still_rows(table)
    if step == 1:
        return tie_rows(table)
    one, other = step
    return joined_rows(rows[one], rows[other])


def is_below(entry, due):
    """Whether an entry is below another one; None is below all integers."""
    if entry is None:
        return due is not None
    return due is not None and entry < due


def fall_below(rows, due):
    """Whether rows are anywhere below other ones."""
    return any([is_below(entry, least) for row, other in zip(rows, due) for entry, least in zip(row, other)])


def is_bound_paper(table, most, value):
    """Whether any value is a right paper for a number of ties."""
    if not isinstance(value, BoundPaper) or not isinstance(value.steps, tuple) or not value.steps:
        return False
    if not is_tuple_of(value.rows, len(value.steps)):
        return False
    if not all([are_rows(len(table.things), rows) for rows in value.rows]):
        return False
    ties = []
    for number, step in enumerate(value.steps):
        if not is_step(step, number) or fall_below(value.rows[number], due_rows(table, step, value.rows)):
            return False
        # more ties than are asked for tell nothing, and would double with each step
        ties.append(min(most, ties_of_step(step, ties)))
    return ties[-1] == most
