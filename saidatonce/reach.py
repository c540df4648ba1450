"""How many ties far batches make a clerk look."""


def walk_reach(batches):
    """The product of the batches, each one more."""
    reach = 1
    for size in batches:
        reach = reach * (size + 1)
    return reach


def ring_reach(batches):
    """The first batch times the walk reach of the others, 0 without batches."""
    if not batches:
        return 0
    return batches[0] * walk_reach(batches[1:])
