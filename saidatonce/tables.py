"""Tables of things and ties, and tables made of others."""

from saidatonce.errors import InvalidNumber, InvalidTable, Refused
from saidatonce.kinds import is_between, is_integer, is_name

MOST_THINGS = 12
MOST_TIES = 60
MOST_WEIGHT = 10 ** 6


def are_names(value, least, most):
    """Whether any value is a tuple of names, of so many at least and at most."""
    if not isinstance(value, tuple) or not least <= len(value) <= most:
        return False
    return all([is_name(name) for name in value])


def are_things(value):
    """Whether any value is the things of a table."""
    if not are_names(value, 1, MOST_THINGS):
        return False
    return all([value[at] < value[at + 1] for at in range(len(value) - 1)])


def is_tie(count, value):
    """Whether any value is a tie between so many things."""
    if not isinstance(value, tuple) or len(value) != 3:
        return False
    x, y, weight = value
    if not is_between(x, 0, count - 1) or not is_between(y, 0, count - 1):
        return False
    return x != y and is_between(weight, -MOST_WEIGHT, MOST_WEIGHT)


class Table:
    """Things, a lot of names, and ties: triples of two things and a weight."""

    def __init__(self, things, ties):
        if not are_things(things):
            raise InvalidTable(-2)
        if not isinstance(ties, tuple) or len(ties) > MOST_TIES:
            raise InvalidTable(-1)
        for number, tie in enumerate(ties):
            if not is_tie(len(things), tie):
                raise InvalidTable(number)
        self.things = things
        self.ties = ties

    def __eq__(self, other):
        return isinstance(other, Table) and self.things == other.things and self.ties == other.ties


def plain_things(count):
    """So many things with the names a, b, c and so on."""
    return tuple("abcdefghijkl"[:count])


def thing_number(table, name):
    """The number of the thing with a name."""
    if is_name(name):
        for number, own in enumerate(table.things):
            if own == name:
                return number
    raise Refused("thing")


def ties_with(table, thing):
    """The lot of the numbers of the ties that have a thing."""
    return tuple([number for number, tie in enumerate(table.ties) if thing in tie[:2]])


def ties_between(table, one, other):
    """The lot of the numbers of the ties from one thing to another one."""
    return tuple([number for number, tie in enumerate(table.ties) if tie[:2] == (one, other)])


def sharpest_tie(table, one, other):
    """The number of the first of the heaviest ties from one thing to another one, or None."""
    best = None
    for number in ties_between(table, one, other):
        if best is None or table.ties[number][2] > table.ties[best][2]:
            best = number
    return best


def tie_weight(table, one, other):
    """The greatest weight of a tie from one thing to another one, or None."""
    number = sharpest_tie(table, one, other)
    if number is None:
        return None
    return table.ties[number][2]


def things_but(table, lot):
    """The lot of all things that are not in a lot."""
    return tuple([thing for thing in range(len(table.things)) if thing not in lot])


def sharpest(table):
    """The table with the heaviest tie alone for each pair of things."""
    pairs = sorted({tie[:2] for tie in table.ties})
    return Table(table.things, tuple([(one, other, tie_weight(table, one, other)) for one, other in pairs]))


def without_ties(table, ties):
    """The table without the ties of a lot of numbers."""
    return Table(table.things, tuple([tie for number, tie in enumerate(table.ties) if number not in ties]))


def with_tie(table, tie):
    """The table with a further tie behind the others."""
    if not is_tie(len(table.things), tie):
        raise Refused("tie")
    if len(table.ties) == MOST_TIES:
        raise Refused("size")
    return Table(table.things, table.ties + (tie,))


def without_things(table, things):
    """The table without a lot of things and all their ties."""
    left = things_but(table, things)
    if not left:
        raise Refused("things")
    places = {thing: place for place, thing in enumerate(left)}
    ties = [(places[x], places[y], weight) for x, y, weight in table.ties if x in places and y in places]
    return Table(tuple([table.things[thing] for thing in left]), tuple(ties))


def renamed_table(table, names):
    """The table in which each thing has its new name, and the new numbers of the things."""
    count = len(table.things)
    if not are_names(names, count, count) or len(set(names)) != count:
        raise Refused("names")
    things = sorted(names)
    places = tuple([things.index(name) for name in names])
    ties = tuple([(places[x], places[y], weight) for x, y, weight in table.ties])
    return Table(tuple(things), ties), places


def turned(table):
    """The table in which each tie leads the other way."""
    return Table(table.things, tuple([(y, x, weight) for x, y, weight in table.ties]))


def stretched(table, factor):
    """The table with all weights multiplied by a number from 1 on."""
    if not is_integer(factor) or factor < 1:
        raise InvalidNumber("factor")
    ties = tuple([(x, y, weight * factor) for x, y, weight in table.ties])
    if any([abs(tie[2]) > MOST_WEIGHT for tie in ties]):
        raise Refused("size")
    return Table(table.things, ties)


def pieces_of(table):
    """The lots of things that hang together by ties, by their least things."""
    count = len(table.things)
    # least[thing] is the least thing known to hang together with it
    least = list(range(count))
    for x, y, _ in table.ties:
        low, high = sorted((least[x], least[y]))
        least = [low if own == high else own for own in least]
    firsts = [thing for thing in range(count) if least[thing] == thing]
    return tuple([tuple([thing for thing in range(count) if least[thing] == first]) for first in firsts])
