"""Answers, 0 or 1, said instead of times: each rule asks for one of two of them."""

from saidatonce.errors import InvalidNumber, InvalidTable
from saidatonce.kinds import is_between, is_number
from saidatonce.tables import MOST_TIES, are_things


def is_rule(count, value):
    """Whether any value is a rule for so many things."""
    if not isinstance(value, tuple) or len(value) != 4:
        return False
    one, answer, other, worth = value
    if not is_between(one, 0, count - 1) or not is_between(other, 0, count - 1):
        return False
    return is_between(answer, 0, 1) and is_between(worth, 0, 1)


class Rules:
    """Things, a lot of names, and rules: the first thing has one answer, or the second one has another."""

    def __init__(self, things, rules):
        if not are_things(things):
            raise InvalidTable(-2)
        if not isinstance(rules, tuple) or len(rules) > MOST_TIES:
            raise InvalidTable(-1)
        for number, rule in enumerate(rules):
            if not is_rule(len(things), rule):
                raise InvalidTable(number)
        self.things = things
        self.rules = rules


def are_answers(rules, value):
    """Whether any value is answers."""
    if not isinstance(value, tuple) or len(value) != len(rules.things):
        return False
    return all([answer is None or is_between(answer, 0, 1) for answer in value])


def is_broken_rule(rule, answers):
    """Whether the things of a rule have come with other answers."""
    one, answer, other, worth = rule
    if answers[one] is None or answers[other] is None:
        return False
    return answers[one] != answer and answers[other] != worth


def broken_rules(rules, answers):
    """The lot of the numbers of the rules that answers break."""
    return tuple([number for number, rule in enumerate(rules.rules) if is_broken_rule(rule, answers)])


def said_answer(answers, thing, answer):
    """The answers with that of a thing."""
    return answers[:thing] + (answer,) + answers[thing + 1:]


def missing_of(answers):
    """The lot of the things that have no answer."""
    return tuple([thing for thing, answer in enumerate(answers) if answer is None])


def pairs_now(rules, one, other):
    """The pairs of the answers of two things that break no rule."""
    nothing = (None,) * len(rules.things)
    pairs = [(0, 0), (0, 1), (1, 0), (1, 1)]
    if one == other:
        pairs = [(0, 0), (1, 1)]
    behind = [said_answer(said_answer(nothing, one, low), other, high) for low, high in pairs]
    return tuple([pair for pair, answers in zip(pairs, behind) if broken_rules(rules, answers) == ()])


def goes_with(rows, one, other, third, pair):
    """Whether a third thing has an answer with which both pairs are left."""
    low, high = pair
    return any([(low, answer) in rows[one][third] and (high, answer) in rows[other][third] for answer in (0, 1)])


def pairs_behind(rows, one, other):
    """The pairs of two things that are left for one thing more to come."""
    thirds = [third for third in range(len(rows)) if third not in (one, other)]
    return tuple([
        pair for pair in rows[one][other] if all([goes_with(rows, one, other, third, pair) for third in thirds])
    ])


def pair_levels(rules, many):
    """The pairs for no thing to come, for one, and so on up to many, or to the last ones that differ."""
    numbers = range(len(rules.things))
    levels = [tuple([tuple([pairs_now(rules, one, other) for other in numbers]) for one in numbers])]
    while len(levels) <= many:
        rows = levels[-1]
        behind = tuple([tuple([pairs_behind(rows, one, other) for other in numbers]) for one in numbers])
        if behind == rows:
            break
        levels.append(behind)
    return levels


def level_for(levels, many):
    """The pairs for so many things to come."""
    return levels[min(many, len(levels) - 1)]


def are_held(levels, answers, many):
    """Whether answers are held for so many things to come, by the pairs for up to so many."""
    here = [thing for thing, answer in enumerate(answers) if answer is not None]
    if here:
        rows = level_for(levels, many)
        return all([(answers[one], answers[other]) in rows[one][other] for one in here for other in here])
    if many == 0:
        return True
    rows = level_for(levels, many - 1)
    return all([rows[thing][thing] != () for thing in range(len(rows))])


def check_many(many, least):
    """Raises InvalidNumber for any value that is no number from a least one on."""
    if not is_number(many) or many < least:
        raise InvalidNumber("many")


def answer_pairs(rules, many):
    """For each two things the pairs of their answers that are held for so many things to come."""
    check_many(many, 0)
    return level_for(pair_levels(rules, many), many)


def is_answerable(rules, answers, many):
    """Whether answers are held for so many things to come."""
    check_many(many, 0)
    return are_held(pair_levels(rules, many), answers, many)


def right_answers(levels, answers, many, thing):
    """The answers of a missing thing behind which all is held for so many things to come."""
    return tuple([answer for answer in (0, 1) if are_held(levels, said_answer(answers, thing, answer), many)])


def answers_for(rules, answers, many, thing):
    """The answers of a missing thing, coming as the first of many, behind which all is held for the others."""
    check_many(many, 1)
    return right_answers(pair_levels(rules, many - 1), answers, many - 1, thing)


def steady_answers(rules):
    """The least number from which on the pairs stay the same."""
    # for more things to come than there are the pairs are the same
    return len(pair_levels(rules, len(rules.things))) - 1


def answer_plan(rules, answers):
    """Some answers of all things, those said as they are, that break no rule, or None."""
    left = len(rules.things)
    levels = pair_levels(rules, left)
    if not are_held(levels, answers, left):
        return None
    plan = answers
    for thing in missing_of(answers):
        left -= 1
        plan = said_answer(plan, thing, right_answers(levels, plan, left, thing)[0])
    return plan
