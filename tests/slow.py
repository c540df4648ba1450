"""Slow ways to find what the package tells: whole games, whole walks, all times."""

import itertools

from saidatonce.tables import Table
from tests.odd import keeps, walks_from, weight_of

LETTERS = "abcdefghijkl"


def lots_of(things, many):
    """All lots of at most so many of some things."""
    return [lot for size in range(min(many, len(things)) + 1) for lot in itertools.combinations(things, size)]


def missing_things(times):
    return [thing for thing, time in enumerate(times) if time is None]


def here_things(times):
    return [thing for thing, time in enumerate(times) if time is not None]


def with_times(times, lot, told):
    behind = list(times)
    for thing, time in zip(lot, told):
        behind[thing] = time
    return tuple(behind)


def window(table, times):
    """The window of point 17, by its words."""
    beyond = max([0] + [tie[2] for tie in table.ties]) * (len(table.things) - 1)
    own = [time for time in times if time is not None]
    if not own:
        return 0, beyond
    return min(own) - beyond, max(own) + beyond


def moved_to_0(times):
    own = [time for time in times if time is not None]
    return tuple(None if time is None else time - min(own) for time in times)


def game_keeps(table, times, batches, among=None, known=None, wider=0):
    """Whether some clerk can keep all ties, by playing the whole game with all times in the window, or a wider one."""
    if known is None:
        known = {}
    if not keeps(table, times):
        return False
    if not batches:
        return True
    key = moved_to_0(times), len(batches)
    if key not in known:
        free = [thing for thing in missing_things(times) if among is None or thing in among]
        known[key] = all(
            game_answers(table, times, lot, batches[1:], among, known, wider) for lot in lots_of(free, batches[0])
        )
    return known[key]


def game_answers(table, times, lot, batches, among=None, known=None, wider=0):
    """Whether there are times in the window, or a wider one, for a lot behind which some clerk can."""
    low, high = window(table, times)
    return any(
        game_keeps(table, with_times(times, lot, told), batches, among, known, wider)
        for told in itertools.product(range(low - wider, high + 1 + wider), repeat=len(lot))
    )


def product_reach(batches):
    """N by its words."""
    reach = 1
    for size in batches:
        reach *= size + 1
    return reach


def first_reach(batches):
    """R by its words."""
    return batches[0] * product_reach(batches[1:]) if batches else 0


def slow_rows(table, most):
    """The greatest weights of walks of at most so many ties, tie by tie."""
    count = len(table.things)
    rows = [[0 if one == other else None for other in range(count)] for one in range(count)]
    for _ in range(most):
        behind = [list(row) for row in rows]
        for row, before in zip(behind, rows):
            for x, y, weight in table.ties:
                if before[x] is not None and (row[y] is None or before[x] + weight > row[y]):
                    row[y] = before[x] + weight
        if behind == rows:
            break
        rows = behind
    return rows


def slow_held(table, times, batches):
    """Whether times are held, by the two sentences of point 31; so many ties tell all that more tell."""
    far = slow_rows(table, min(product_reach(batches), 40))
    around = slow_rows(table, min(first_reach(batches), 40))
    here = here_things(times)
    for one in here:
        for other in here:
            if far[one][other] is not None and far[one][other] > times[other] - times[one]:
                return False
    return all(around[thing][thing] <= 0 for thing in missing_things(times))


def slow_walks(table, most):
    """All walks of one tie or more, at most so many: the walk, its first and its last thing, its weight."""
    return [
        (walk, thing, end, weight_of(table, walk))
        for thing in range(len(table.things))
        for walk, end in walks_from(table, thing, most)
        if walk
    ]


def all_plans(table, low, high):
    """All times of all things in a range that are kept."""
    times = itertools.product(range(low, high + 1), repeat=len(table.things))
    return [told for told in times if keeps(table, told)]


def ring_of(count, weight, *others):
    """The ties of a ring of so many things, the first one with a weight, the others with 0, and further ones."""
    return tuple((at, (at + 1) % count, weight if at == 0 else 0) for at in range(count)) + others


def great_table(chance, least, most, ties=60):
    """A table of 12 things and many ties with any weights between two."""
    found = [(*chance.sample(range(12), 2), chance.randint(least, most)) for _ in range(ties)]
    return Table(tuple(LETTERS), tuple(found))


def random_times(chance, table, apart=6, share=2):
    """Some times of a table, of which about one of so many things has come."""
    return tuple(chance.randint(0, apart) if chance.randrange(share) == 0 else None for _ in table.things)
