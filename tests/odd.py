"""Odd values, for functions that are described for any value, and small tables to try."""

import random

from saidatonce.tables import Table


class Sour:
    """An object that does nothing that it is asked for."""

    def _no(self, *rest):
        raise RuntimeError("asked for something")

    __eq__ = __ne__ = __lt__ = __le__ = __gt__ = __ge__ = _no
    __len__ = __iter__ = __getitem__ = __contains__ = __bool__ = __hash__ = _no
    __int__ = __index__ = __str__ = __repr__ = __add__ = __abs__ = __neg__ = __getattr__ = _no


class Yes:
    """An object that is equal to everything and has every attribute."""

    def __eq__(self, other):
        return True

    def __hash__(self):
        return 0

    def __getattr__(self, name):
        return 0

    def __len__(self):
        return 3

    def __iter__(self):
        return iter((0, 1, 2))

    def __getitem__(self, at):
        return at

    def __index__(self):
        return 1


def deep_tuple():
    """A tuple too deep to be compared or shown."""
    value = ()
    for _ in range(50000):
        value = (value,)
    return value


def odd_values():
    """Values that are no integer, no name and no tuple of any use."""
    endless = []
    endless.append(endless)
    return [
        None, True, False, 0.0, 1.0, 2.5, float("nan"), float("inf"), 1j, "", "A", "tea cup", "0", b"a", b"",
        [], [0], [[0, 1, 2]], {}, {0: 1}, {0}, frozenset((0, 1)), object(), int, Table, Sour(), Yes(), endless,
        (None,) * 100, ((),), deep_tuple(), range(3), len, Sour, "a" * 10000, (0,) * 30000,
    ]


def small_tables(many, most_things=3, most_ties=5, least=-3, most=3, seed=1):
    """Some small tables, always the same ones."""
    chance = random.Random(seed)
    found = []
    for _ in range(many):
        count = chance.randint(1, most_things)
        ties = []
        if count > 1:
            for _ in range(chance.randint(0, most_ties)):
                one, other = chance.sample(range(count), 2)
                ties.append((one, other, chance.randint(least, most)))
        found.append(Table(tuple("abcdefghijkl"[:count]), tuple(ties)))
    return found


def walks_from(table, thing, most):
    """All walks from a thing of at most so many ties: pairs of the walk and its last thing."""
    found = [((), thing)]
    last = [((), thing)]
    for _ in range(most):
        last = [
            (walk + (number,), tie[1])
            for walk, end in last
            for number, tie in enumerate(table.ties)
            if tie[0] == end
        ]
        found = found + last
    return found


def weight_of(table, walk):
    """The sum of the weights of some ties."""
    return sum(table.ties[number][2] for number in walk)


def keeps(table, times):
    """Whether times break no tie."""
    return all(
        times[x] is None or times[y] is None or times[y] - times[x] >= weight for x, y, weight in table.ties
    )
