"""Layers: how heavy the walks from one thing get, tie by tie."""

from saidatonce.errors import InvalidNumber
from saidatonce.kinds import is_between

MOST_LAYERS = 100


def first_layer(table, thing):
    """The weights of the walk without ties from a thing."""
    return tuple([0 if other == thing else None for other in range(len(table.things))])


def next_layer(table, row):
    """The greatest weights of the walks of a layer, each perhaps with one more tie."""
    behind = list(row)
    for x, y, weight in table.ties:
        if row[x] is not None and (behind[y] is None or row[x] + weight > behind[y]):
            behind[y] = row[x] + weight
    return tuple(behind)


def layers_from(table, thing, most):
    """The layers of a thing for any number of ties."""
    layers = [first_layer(table, thing)]
    while len(layers) <= most:
        behind = next_layer(table, layers[-1])
        if behind == layers[-1]:
            break
        layers.append(behind)
    return tuple(layers)


def tie_into(table, row, thing, weight):
    """The number of the first tie that brings a walk of a layer to a thing with this weight."""
    for number, (x, y, own) in enumerate(table.ties):
        if y == thing and row[x] is not None and row[x] + own == weight:
            return number
    return None


def walk_in_layers(table, layers, end):
    """A walk, from the thing of the layers to one with a weight in the last of them, that has this weight."""
    walk = []
    at = end
    for level in reversed(range(1, len(layers))):
        before = layers[level - 1]
        if before[at] != layers[level][at]:
            number = tie_into(table, before, at, layers[level][at])
            walk.append(number)
            at = table.ties[number][0]
    return tuple(walk[::-1])


def thing_layers(table, thing, most):
    """The greatest weights of walks from a thing of at most 0 ties, 1 tie, and so on."""
    if not is_between(most, 0, MOST_LAYERS):
        raise InvalidNumber("most")
    return layers_from(table, thing, most)
