"""Disks, and what a cut leaves of them."""

from saidatonce.errors import Refused
from saidatonce.kinds import is_between

MOST_CELLS = 20000
MOST_OCTET = 255


def are_cells(value):
    """Whether any value is the cells that a disk can begin with."""
    if not isinstance(value, tuple) or not 1 <= len(value) <= MOST_CELLS:
        return False
    return all([is_between(octet, 0, MOST_OCTET) for octet in value])


class Disk:
    """A disk with an octet at each place; `cells` is what it began with."""

    def __init__(self, cells):
        if not are_cells(cells):
            raise Refused("cells")
        self.cells = cells
        self._present = list(cells)
        self._done = []

    def look(self, at):
        """The octet at a place."""
        return self._present[at]

    def put(self, at, octet):
        """Puts an octet at a place."""
        self._present[at] = octet
        self._done.append((at, octet))

    def flush(self):
        """Makes all that was put last."""
        self._done.append(None)

    def events(self):
        """All puts and flushes, in their sequence."""
        return tuple(self._done)


def pending_places(events):
    """The lot of the places of puts behind the last flush."""
    places = []
    for event in events:
        if event is None:
            places = []
        else:
            places.append(event[0])
    return tuple(sorted(set(places)))


def cut_cells(cells, events, octets):
    """What a cut leaves of a disk, with these octets at the pending places."""
    left = list(cells)
    for event in events:
        if event is not None:
            at, octet = event
            left[at] = octet
    for at, octet in zip(pending_places(events), octets):
        left[at] = octet
    return tuple(left)
