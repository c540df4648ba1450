"""Journals: records on a disk that may be cut anywhere."""

from saidatonce.errors import Broken, Refused

# The first cell is the switch: whatever octet it has, it chooses one of two heads. Each head, of two cells,
# tells one of two halves of the cells behind, and how many octets of this half are in use, from its begin on.
# What the chosen head does not tell of may be anything. A change is made there, and in the other head; only
# when this has been flushed the switch is put, and it alone is pending then.
SWITCH = 0
FIRST_HEAD = 1
FIRST_HALF = 5

# a head is the number of octets in use, with this added for the second half
HALF_SIGN = 32768


def two_octets(number):
    """The two octets of a number."""
    return [number // 256, number % 256]


def number_at(disk, at):
    """The number that two octets tell."""
    return disk.look(at) * 256 + disk.look(at + 1)


def half_size(disk):
    """How many cells each half has, below 0 if not even the heads have room."""
    return (len(disk.cells) - FIRST_HALF) // 2


def half_begin(disk, half):
    """The place at which a half begins."""
    return FIRST_HALF + half * half_size(disk)


def chosen_head(disk):
    """The number of the head that the switch chooses."""
    return disk.look(SWITCH) % 2


def half_in_use(disk):
    """The half that the chosen head tells, and how many octets of it are in use."""
    if half_size(disk) < 0:
        return 0, 0
    return divmod(number_at(disk, FIRST_HEAD + 2 * chosen_head(disk)), HALF_SIGN)


def record_places(disk):
    """For each record the place at which its octets begin, and the one behind them."""
    half, used = half_in_use(disk)
    if used > max(half_size(disk), 0):
        raise Broken("journal")
    at = half_begin(disk, half)
    end = at + used
    places = []
    while at < end:
        # if the two octets of the length are not all there, nothing is behind them
        behind = end + 1
        if at + 2 <= end:
            behind = at + 2 + number_at(disk, at)
        if behind > end:
            raise Broken("journal")
        places.append((at + 2, behind))
        at = behind
    return places


def switch_to(disk, half, used):
    """Makes so many octets of a half, which are put already, those that are in use."""
    head = 1 - chosen_head(disk)
    for at, octet in enumerate(two_octets(half * HALF_SIGN + used)):
        disk.put(FIRST_HEAD + 2 * head + at, octet)
    disk.flush()
    disk.put(SWITCH, head)
    disk.flush()


def packed(records):
    """The octets of records, each with its length before it."""
    octets = []
    for record in records:
        octets.extend(two_octets(len(record)))
        octets.extend(record)
    return octets


def put_behind(disk, half, used, records):
    """Puts records behind the first octets of a half, and makes these and the records what is in use."""
    octets = packed(records)
    if used + len(octets) > half_size(disk):
        raise Refused("room")
    begin = half_begin(disk, half) + used
    for at, octet in enumerate(octets):
        disk.put(begin + at, octet)
    switch_to(disk, half, used + len(octets))


class Journal:
    """The records that lie on a disk."""

    def __init__(self, disk):
        self.disk = disk
        # tells at once if these are cells that no journal has left
        record_places(disk)

    def records(self):
        """All records, tuples of octets."""
        disk = self.disk
        places = record_places(disk)
        return tuple([tuple([disk.look(at) for at in range(begin, end)]) for begin, end in places])

    def write(self, record):
        """Adds a record behind the others."""
        half, used = half_in_use(self.disk)
        put_behind(self.disk, half, used, (record,))

    def drop(self, many):
        """Takes so many of the last records away at once."""
        places = record_places(self.disk)
        if many > len(places):
            raise Refused("records")
        if many > 0:
            half, _ = half_in_use(self.disk)
            first = places[len(places) - many][0] - 2
            switch_to(self.disk, half, first - half_begin(self.disk, half))

    def renew(self, records):
        """Puts records in the place of all."""
        half, _ = half_in_use(self.disk)
        put_behind(self.disk, 1 - half, 0, records)
