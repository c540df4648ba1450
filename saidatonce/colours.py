"""Colours, said for things instead of times: the things of a tie must have unlike ones."""

from saidatonce.errors import Refused
from saidatonce.tables import Table, plain_things

MOST_WAYS = 50000


def neighbours_of(table):
    """For each thing the list of the things with which it has a tie."""
    near = [[] for _ in table.things]
    for x, y, _ in table.ties:
        near[x].append(y)
        near[y].append(x)
    return near


# All colours are alike but for their names. So of two things either all pairs of one colour twice are left,
# or none; and likewise all pairs of unlike colours. It is enough to keep these two truths for each two things.


def first_pairs(table, count):
    """For each two things whether one colour twice breaks no tie, and whether there are unlike colours for them."""
    near = neighbours_of(table)
    numbers = range(len(near))
    return [[(other not in near[one], one != other and count > 1) for other in numbers] for one in numbers]


def fits_beside_same(one, other):
    """Whether a third thing has a colour beside one colour twice, by what is left for it and each of the two."""
    return one[0] and other[0] or one[1] and other[1]


def fits_beside_unlike(count, one, other):
    """Whether a third thing has a colour beside two unlike ones, by what is left for it and each of the two."""
    return one[0] and other[1] or one[1] and other[0] or count > 2 and one[1] and other[1]


def next_pair(count, rows, one, other):
    """Which pairs of two things are left for one thing more to come."""
    same, unlike = rows[one][other]
    for third in range(len(rows)):
        if third not in (one, other):
            same = same and fits_beside_same(rows[one][third], rows[other][third])
            unlike = unlike and fits_beside_unlike(count, rows[one][third], rows[other][third])
    return same, unlike


def pairs_left(table, count, many):
    """Which pairs of each two things are left for so many things to come."""
    rows = first_pairs(table, count)
    numbers = range(len(rows))
    for _ in range(many):
        behind = [[next_pair(count, rows, one, other) for other in numbers] for one in numbers]
        if behind == rows:
            break
        rows = behind
    return rows


def is_left(rows, said, one, other):
    """Whether the pair of the colours said for two things is left."""
    same, unlike = rows[one][other]
    if said[one] == said[other]:
        return same
    return unlike


def pairs_agree(table, count, said, many):
    """Whether the pairs of the colours said are left for so many things to come."""
    here = [thing for thing, colour in enumerate(said) if colour is not None]
    if not here:
        if many == 0:
            return True
        rows = pairs_left(table, count, many - 1)
        return all([rows[thing][thing][0] for thing in range(len(rows))])
    rows = pairs_left(table, count, many)
    return all([is_left(rows, said, one, other) for one in here for other in here])


def check_ways(count, missing, many):
    """Raises Refused if so many missing things and colours make too many ways to play."""
    ways = 1
    for done in range(min(missing, many)):
        ways = ways * (missing - done) * count
        if ways > MOST_WAYS:
            raise Refused("size")


def colours_behind(said, thing, colour):
    """The colours said behind a further one."""
    return said[:thing] + (colour,) + said[thing + 1:]


def can_colour(near, count, said, many, known):
    """Whether some clerk can, from colours that break no tie; `known` keeps what was found for colours said."""
    if many == 0:
        return True
    if said not in known:
        known[said] = can_answer_all(near, count, said, many, known)
    return known[said]


def can_answer_all(near, count, said, many, known):
    """Whether each missing thing, if it comes next, has a colour behind which some clerk can."""
    for thing, colour in enumerate(said):
        if colour is None and not can_answer(near, count, said, many, known, thing):
            return False
    return True


def can_answer(near, count, said, many, known, thing):
    """Whether a missing thing, if it comes next, has a colour behind which some clerk can."""
    barred = [said[other] for other in near[thing]]
    for colour in range(count):
        if colour not in barred and can_colour(near, count, colours_behind(said, thing, colour), many - 1, known):
            return True
    return False


def colour_game(table, count, said, many):
    """Whether some clerk can for so many things to come."""
    check_ways(count, len([colour for colour in said if colour is None]), many)
    if any([said[x] is not None and said[x] == said[y] for x, y, _ in table.ties]):
        return False
    return can_colour(neighbours_of(table), count, said, many, {})


def colour_gap(count):
    """A table and colours said whose pairs agree for one thing to come, though no clerk can; None below 3."""
    if count < 3:
        return None
    # all colours are said around the thing that is to come
    ties = tuple([(thing, count, 0) for thing in range(count)])
    return Table(plain_things(count + 1), ties), tuple(range(count)) + (None,)
