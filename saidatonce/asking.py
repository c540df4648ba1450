"""Asking trees: what comes, by what was answered so far, until a rule is broken."""

from saidatonce.kinds import is_between
from saidatonce.literals import are_held, broken_rules, check_many, missing_of, pair_levels, said_answer

BROKEN = "broken"
ASK = "ask"


def behind_both(answers, thing):
    """The answers with 0, and with 1, for a thing."""
    return said_answer(answers, thing, 0), said_answer(answers, thing, 1)


def tree_of(rules, levels, answers, many):
    """Some tree of at most so many things, from answers that are not held for them."""
    broken = broken_rules(rules, answers)
    if broken:
        return BROKEN, broken[0]
    for thing in missing_of(answers):
        low, high = behind_both(answers, thing)
        if not are_held(levels, low, many - 1) and not are_held(levels, high, many - 1):
            return ASK, thing, tree_of(rules, levels, low, many - 1), tree_of(rules, levels, high, many - 1)
    return None


def asking_tree(rules, answers, many):
    """Some tree of at most so many things, as low as can be, or None if the answers are held."""
    check_many(many, 0)
    # more things than there are do not come
    most = min(many, len(rules.things))
    levels = pair_levels(rules, most)
    for height in range(most + 1):
        if not are_held(levels, answers, height):
            return tree_of(rules, levels, answers, height)
    return None


def is_asking_tree(rules, answers, many, value):
    """Whether any value is a tree of at most so many things, from some answers."""
    if not isinstance(value, tuple) or len(value) not in (2, 4) or not isinstance(value[0], str):
        return False
    if len(value) == 2:
        number = value[1]
        if value[0] != BROKEN or not is_between(number, 0, len(rules.rules) - 1):
            return False
        return number in broken_rules(rules, answers)
    word, thing, first, second = value
    if word != ASK or many == 0 or not is_between(thing, 0, len(answers) - 1) or answers[thing] is not None:
        return False
    low, high = behind_both(answers, thing)
    return is_asking_tree(rules, low, many - 1, first) and is_asking_tree(rules, high, many - 1, second)


def asking_height(tree):
    """How many things a longest way of a tree asks for."""
    if tree[0] == BROKEN:
        return 0
    return 1 + max(asking_height(tree[2]), asking_height(tree[3]))
