"""How high and how wide attacks are."""

from saidatonce.attacks import TieBroken


def tree_height(tree):
    """The greatest number of lots of a tree that come one after another."""
    if isinstance(tree, TieBroken):
        return 0
    return 1 + max([tree_height(other) for _, other in tree.parts])


def tree_ends(tree):
    """The ties of all ends of a tree, from left to right."""
    if isinstance(tree, TieBroken):
        return (tree.tie,)
    return tuple([tie for _, other in tree.parts for tie in tree_ends(other)])


def tree_things(tree):
    """The list of the things of all lots of a tree, some perhaps more than once."""
    if isinstance(tree, TieBroken):
        return []
    return list(tree.things) + [thing for _, other in tree.parts for thing in tree_things(other)]


def attack_height(attack):
    """The greatest number of lots that come one after another."""
    return tree_height(attack.tree)


def end_ties(attack):
    """The ties of all ends, from left to right."""
    return tree_ends(attack.tree)


def all_things_of(attack):
    """The lot of all things of lots in the tree."""
    return tuple(sorted(set(tree_things(attack.tree))))
