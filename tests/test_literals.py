"""Points 66 and 67: rules, answers and their pairs."""

import itertools
import random
import unittest

from saidatonce.errors import InvalidNumber, InvalidTable
from saidatonce.literals import (
    Rules, answer_pairs, answer_plan, answers_for, are_answers, broken_rules, is_answerable, steady_answers,
)
from tests.odd import Sour, Yes, odd_values

LETTERS = "abcdefghijkl"
NAMES = ("a", "b", "c")
RULES = Rules(NAMES, ((0, 0, 1, 1), (1, 0, 2, 1)))
NONE = (None, None, None)
NO_NUMBERS = [-1, -10 ** 400, True, False, 1.0, "1", None, (1,), [1], Sour(), Yes()]
# thing 0 has no answer at all
NEITHER = Rules(NAMES, ((0, 0, 0, 0), (0, 1, 0, 1)))


def small_rules(many, most_things=4, most_rules=6, seed=1):
    """Some rules of few things, always the same ones."""
    chance = random.Random(seed)
    found = []
    for _ in range(many):
        count = chance.randint(1, most_things)
        found.append(Rules(tuple(LETTERS[:count]), tuple(
            (chance.randrange(count), chance.randrange(2), chance.randrange(count), chance.randrange(2))
            for _ in range(chance.randint(0, most_rules))
        )))
    return found


def slow_broken(rules, answers):
    """The numbers of the broken rules, by their words."""
    found = []
    for number, (one, value, other, worth) in enumerate(rules.rules):
        come = answers[one] is not None and answers[other] is not None
        if come and not (answers[one] == value or answers[other] == worth):
            found.append(number)
    return tuple(found)


def with_answer(answers, thing, answer):
    return answers[:thing] + (answer,) + answers[thing + 1:]


def slow_held(rules, answers, many):
    """Whether some clerk can, by the whole game."""
    if slow_broken(rules, answers):
        return False
    if many == 0:
        return True
    return all(
        any(slow_held(rules, with_answer(answers, thing, answer), many - 1) for answer in (0, 1))
        for thing, said in enumerate(answers) if said is None
    )


def all_answers(count):
    return itertools.product((None, 0, 1), repeat=count)


def chain(count):
    """Rules by which each thing has 0, or the one behind it has 1."""
    return Rules(tuple(LETTERS[:count]), tuple((at, 0, at + 1, 1) for at in range(count - 1)))


class MadeTest(unittest.TestCase):
    def raises(self, at, things, rules):
        with self.assertRaises(InvalidTable) as caught:
            Rules(things, rules)
        self.assertEqual(caught.exception.at, at)

    def test_attributes(self):
        rules = Rules(rules=((0, 1, 0, 0),), things=("a",))
        self.assertEqual((rules.things, rules.rules), (("a",), ((0, 1, 0, 0),)))
        self.assertEqual(Rules(tuple(LETTERS), ()).rules, ())

    def test_things(self):
        for value in odd_values() + [(), ("b", "a"), ("a", "a"), ("A",), ("abcdefg",), tuple("abcdefghijklm"), ["a"]]:
            self.raises(-2, value, ())
            self.raises(-2, value, None)

    def test_rules(self):
        for value in odd_values():
            if not isinstance(value, tuple):
                self.raises(-1, NAMES, value)
        self.raises(-1, NAMES, [(0, 0, 1, 1)])
        self.raises(-1, NAMES, ((0, 0, 1, 1),) * 61)
        self.raises(-1, NAMES, (None,) * 61)
        self.assertEqual(len(Rules(NAMES, ((0, 0, 1, 1),) * 60).rules), 60)

    def test_the_first_wrong_rule(self):
        wrong = odd_values() + [
            (), (0, 0, 1), (0, 0, 1, 1, 0), [0, 0, 1, 1], (3, 0, 1, 1), (-1, 0, 1, 1), (0, 2, 1, 1), (0, -1, 1, 1),
            (0, 0, 3, 1), (0, 0, -1, 1), (0, 0, 1, 2), (0, 0, 1, -1), (0, None, 1, 1), (None, 0, 1, 1), (0, 0, 1, None),
            (0, 0, None, 0), (0, True, 1, 1), (0, 0, 1, False), (True, 0, 1, 1), (0, 0, False, 1), (0, 0.0, 1, 1),
            (0, 0, 1, 1.0), (0, "0", 1, 1), (10 ** 400, 0, 1, 1), (0, 0, 1, 10 ** 400), (Sour(), 0, 1, 1),
            (0, Sour(), 1, 1), (0, 0, Yes(), 1), (0, 0, 1, Yes()), ((0,), 0, 1, 1), (0, [0], 1, 1),
        ]
        for value in wrong:
            self.raises(0, NAMES, (value,))
            self.raises(2, NAMES, ((0, 0, 1, 1), (2, 1, 2, 0), value, value, None))
        self.raises(0, ("a",), ((0, 0, 1, 1),))

    def test_a_thing_with_itself(self):
        self.assertEqual(Rules(("a",), ((0, 0, 0, 0), (0, 0, 0, 1))).rules, ((0, 0, 0, 0), (0, 0, 0, 1)))

    def test_later_changes_have_no_effect(self):
        things = ["a", "b"]
        rules = Rules(tuple(things), ())
        things.append("c")
        self.assertEqual(rules.things, ("a", "b"))


class AnswersTest(unittest.TestCase):
    def test_answers(self):
        for value in all_answers(3):
            self.assertIs(are_answers(RULES, value), True)
        self.assertIs(are_answers(rules=RULES, value=(0, 1, None)), True)

    def test_other_values(self):
        for value in odd_values() + [(), (0, 1), (0, 1, 0, 1), [0, 1, None], "010", (None,) * 4]:
            self.assertIs(are_answers(RULES, value), False)
        for wrong in (True, False, 2, -1, 1.0, 0.0, "0", b"", (0,), [], Sour(), Yes(), 10 ** 400):
            for at in range(3):
                self.assertIs(are_answers(RULES, with_answer(NONE, at, wrong)), False)

    def test_broken_rules(self):
        self.assertEqual(broken_rules(RULES, NONE), ())
        self.assertEqual(broken_rules(RULES, (1, 0, None)), (0,))
        self.assertEqual(broken_rules(RULES, (1, None, 0)), ())
        self.assertEqual(broken_rules(rules=RULES, answers=(0, 1, 0)), (1,))
        self.assertEqual(broken_rules(NEITHER, (0, None, None)), (1,))
        self.assertEqual(broken_rules(NEITHER, (1, None, None)), (0,))
        for rules in small_rules(80, seed=66):
            for answers in all_answers(len(rules.things)):
                self.assertEqual(broken_rules(rules, answers), slow_broken(rules, answers))


class PairsTest(unittest.TestCase):
    def test_the_example_of_the_document(self):
        self.assertEqual(answer_pairs(RULES, 0)[0][2], ((0, 0), (0, 1), (1, 0), (1, 1)))
        self.assertEqual(answer_pairs(RULES, 1)[0][2], ((0, 0), (0, 1), (1, 1)))

    def test_against_whole_games(self):
        for rules in small_rules(120, seed=67) + [NEITHER, RULES]:
            count = len(rules.things)
            nothing = (None,) * count
            for many in range(count + 2):
                rows = answer_pairs(rules, many)
                self.assertEqual([len(row) for row in rows], [count] * count)
                for one, other in itertools.product(range(count), repeat=2):
                    pairs = tuple(
                        (low, high) for low in (0, 1) for high in (0, 1) if (one != other or low == high)
                        and slow_held(rules, with_answer(with_answer(nothing, one, low), other, high), many)
                    )
                    self.assertEqual(rows[one][other], pairs)

    def test_kinds(self):
        rows = answer_pairs(rules=RULES, many=2)
        self.assertIsInstance(rows, tuple)
        for row in rows:
            self.assertIsInstance(row, tuple)
            for pairs in row:
                self.assertIsInstance(pairs, tuple)

    def test_rules_of_one_thing_with_itself(self):
        self.assertEqual(answer_pairs(Rules(("a",), ((0, 1, 0, 1),)), 0), ((((1, 1),),),))
        self.assertEqual(answer_pairs(Rules(("a",), ((0, 0, 0, 1),)), 5), ((((0, 0), (1, 1)),),))
        self.assertEqual(answer_pairs(NEITHER, 0)[0], ((), (), ()))
        self.assertEqual(answer_pairs(NEITHER, 0)[1][1], ((0, 0), (1, 1)))
        self.assertEqual(answer_pairs(NEITHER, 1)[1], ((), (), ()))

    def test_great_numbers(self):
        for rules in (RULES, NEITHER, chain(12)):
            self.assertEqual(answer_pairs(rules, 10 ** 400), answer_pairs(rules, 12))

    def test_great_rules(self):
        chance = random.Random(68)
        for size in (6, 12, 20, 60):
            rules = Rules(tuple(LETTERS), tuple(
                (chance.randrange(12), chance.randrange(2), chance.randrange(12), chance.randrange(2))
                for _ in range(size)
            ))
            rows = answer_pairs(rules, 12)
            plans = [told for told in itertools.product((0, 1), repeat=12) if not slow_broken(rules, told)]
            for one, other in itertools.product(range(12), repeat=2):
                self.assertEqual(rows[one][other], tuple(sorted({(plan[one], plan[other]) for plan in plans})))


class AnswerableTest(unittest.TestCase):
    def test_against_whole_games(self):
        for rules in small_rules(40, seed=69) + [NEITHER, RULES]:
            for answers in all_answers(len(rules.things)):
                for many in range(len(rules.things) + 2):
                    self.assertIs(is_answerable(rules, answers, many), slow_held(rules, answers, many))

    def test_if_nothing_has_come(self):
        self.assertIs(is_answerable(NEITHER, NONE, 0), True)
        self.assertIs(is_answerable(NEITHER, NONE, 1), False)
        # with these no two things go together, though each has an answer alone
        apart = Rules(("a", "b"), ((0, 0, 1, 0), (0, 0, 1, 1), (0, 1, 1, 0), (0, 1, 1, 1)))
        self.assertEqual([is_answerable(apart, (None, None), many) for many in (0, 1, 2)], [True, True, False])
        self.assertIs(is_answerable(rules=apart, answers=(0, None), many=1), False)

    def test_a_thing_that_has_come_alone(self):
        self.assertIs(is_answerable(NEITHER, (0, None, None), 0), False)
        self.assertIs(is_answerable(NEITHER, (None, 0, None), 0), True)
        self.assertIs(is_answerable(NEITHER, (None, 0, None), 1), False)

    def test_great_numbers(self):
        self.assertIs(is_answerable(RULES, NONE, 10 ** 400), True)
        self.assertIs(is_answerable(RULES, (1, None, 0), 10 ** 400), False)


class AnswersForTest(unittest.TestCase):
    def test_a_row(self):
        self.assertEqual(answers_for(RULES, (1, None, None), 1, 1), (1,))
        self.assertEqual(answers_for(RULES, (1, None, None), 1, 2), (0, 1))
        self.assertEqual(answers_for(RULES, (1, None, None), 2, 2), (1,))
        self.assertEqual(answers_for(RULES, (1, None, 0), 1, 1), ())
        self.assertEqual(answers_for(rules=RULES, answers=NONE, many=10 ** 400, thing=1), (0, 1))

    def test_against_whole_games(self):
        for rules in small_rules(30, seed=70) + [NEITHER]:
            for answers in all_answers(len(rules.things)):
                for thing, said in enumerate(answers):
                    for many in range(1, len(rules.things) + 2 if said is None else 0):
                        right = tuple(
                            answer for answer in (0, 1)
                            if slow_held(rules, with_answer(answers, thing, answer), many - 1)
                        )
                        self.assertEqual(answers_for(rules, answers, many, thing), right)


class SteadyTest(unittest.TestCase):
    def test_chains(self):
        self.assertEqual([steady_answers(chain(count)) for count in range(1, 11)], [0, 0, 1, 2, 2, 3, 3, 3, 3, 4])
        self.assertEqual(steady_answers(rules=RULES), 1)

    def test_from_there_on_pairs_stay_the_same(self):
        for rules in small_rules(100, 5, 8, seed=71) + [NEITHER, chain(12)]:
            steady = steady_answers(rules)
            last = answer_pairs(rules, steady)
            for many in range(steady, len(rules.things) + 3):
                self.assertEqual(answer_pairs(rules, many), last)
            for many in range(steady):
                self.assertNotEqual(answer_pairs(rules, many), last)


class PlanTest(unittest.TestCase):
    def test_against_all_answers(self):
        for rules in small_rules(50, seed=72) + [NEITHER, RULES]:
            count = len(rules.things)
            plans = [told for told in itertools.product((0, 1), repeat=count) if not slow_broken(rules, told)]
            for answers in all_answers(count):
                fitting = [plan for plan in plans if all(a in (None, b) for a, b in zip(answers, plan))]
                plan = answer_plan(rules, answers)
                if fitting:
                    self.assertIn(plan, fitting)
                else:
                    self.assertIsNone(plan)
                self.assertIs(plan is not None, is_answerable(rules, answers, count))

    def test_a_row(self):
        self.assertEqual(answer_plan(RULES, (1, None, None)), (1, 1, 1))
        self.assertIsNone(answer_plan(rules=RULES, answers=(1, None, 0)))
        self.assertIsNone(answer_plan(NEITHER, NONE))
        self.assertEqual(answer_plan(chain(12), (1,) + (None,) * 11), (1,) * 12)


class RaisedTest(unittest.TestCase):
    def test_many(self):
        for value in NO_NUMBERS + odd_values():
            for call in (
                lambda: answer_pairs(RULES, value),
                lambda: is_answerable(RULES, NONE, value),
                lambda: answers_for(RULES, NONE, value, 0),
            ):
                with self.assertRaises(InvalidNumber) as caught:
                    call()
                self.assertEqual(caught.exception.word, "many")

    def test_0(self):
        with self.assertRaises(InvalidNumber) as caught:
            answers_for(RULES, NONE, 0, 0)
        self.assertEqual(caught.exception.word, "many")
        self.assertEqual(len(answer_pairs(RULES, 0)), 3)
        self.assertIs(is_answerable(RULES, NONE, 0), True)
        self.assertEqual(answers_for(RULES, NONE, 1, 0), (0, 1))


if __name__ == "__main__":
    unittest.main()
