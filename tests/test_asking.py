"""Point 68: asking trees."""

import unittest

from saidatonce.asking import asking_height, asking_tree, is_asking_tree
from saidatonce.errors import InvalidNumber
from saidatonce.literals import Rules, is_answerable
from tests.odd import Sour, Yes, deep_tuple, odd_values
from tests.test_literals import (
    NEITHER, NO_NUMBERS, NONE, RULES, all_answers, chain, slow_broken, small_rules, with_answer,
)

ENDS = (1, None, 0)
TREE = ("ask", 1, ("broken", 0), ("broken", 1))


def slow_is_tree(rules, answers, many, tree):
    """Whether a tree of the two forms is right, by the words."""
    if tree[0] == "broken":
        return tree[1] in slow_broken(rules, answers)
    _, thing, low, high = tree
    return many > 0 and answers[thing] is None and all(
        slow_is_tree(rules, with_answer(answers, thing, answer), many - 1, tree)
        for answer, tree in ((0, low), (1, high))
    )


def slow_height(tree):
    return 0 if tree[0] == "broken" else 1 + max(slow_height(tree[2]), slow_height(tree[3]))


class ReturnedTest(unittest.TestCase):
    def test_the_example_of_the_document(self):
        self.assertEqual(asking_tree(RULES, ENDS, 1), TREE)

    def judge(self, rules, answers, many):
        tree = asking_tree(rules, answers, many)
        if is_answerable(rules, answers, many):
            self.assertIsNone(tree)
            return
        self.assertTrue(slow_is_tree(rules, answers, many, tree))
        self.assertIs(is_asking_tree(rules, answers, many, tree), True)
        height = slow_height(tree)
        self.assertEqual(asking_height(tree), height)
        # no lower one is right
        self.assertTrue(all(is_answerable(rules, answers, less) for less in range(height)))

    def test_small_ones(self):
        for rules in small_rules(24, 4, 9, seed=73) + [NEITHER, RULES]:
            for answers in all_answers(len(rules.things)):
                for many in (0, 1, 2, 3, 4, 5, 10 ** 400):
                    self.judge(rules, answers, many)

    def test_chains(self):
        for count in range(2, 13):
            ends = (1,) + (None,) * (count - 2) + (0,)
            for many in range(6):
                self.judge(chain(count), ends, many)
        self.assertEqual(asking_height(asking_tree(chain(12), (1,) + (None,) * 10 + (0,), 12)), 4)

    def test_nothing_has_come(self):
        self.assertIsNone(asking_tree(NEITHER, NONE, 0))
        self.assertEqual(asking_tree(NEITHER, NONE, 1), ("ask", 0, ("broken", 1), ("broken", 0)))
        self.assertEqual(asking_tree(rules=NEITHER, answers=NONE, many=12), ("ask", 0, ("broken", 1), ("broken", 0)))

    def test_broken_now(self):
        self.assertEqual(asking_tree(RULES, (1, 0, None), 0), ("broken", 0))
        self.assertEqual(asking_tree(RULES, (0, 1, 0), 9), ("broken", 1))

    def test_many(self):
        for value in NO_NUMBERS + odd_values():
            with self.assertRaises(InvalidNumber) as caught:
                asking_tree(RULES, NONE, value)
            self.assertEqual(caught.exception.word, "many")
        self.assertIsNone(asking_tree(RULES, ENDS, 0))


class JudgedTest(unittest.TestCase):
    def right(self, rules, answers, many, tree):
        self.assertIs(is_asking_tree(rules, answers, many, tree), True)

    def wrong(self, rules, answers, many, tree):
        self.assertIs(is_asking_tree(rules, answers, many, tree), False)

    def test_right_ones(self):
        self.right(RULES, ENDS, 1, TREE)
        self.right(RULES, ENDS, 10 ** 400, TREE)
        self.right(RULES, (1, 0, None), 0, ("broken", 0))
        self.assertIs(is_asking_tree(rules=RULES, answers=ENDS, many=2, value=TREE), True)

    def test_trees_that_are_not_as_low_as_can_be(self):
        self.right(RULES, (1, 0, None), 1, ("ask", 2, ("broken", 0), ("broken", 0)))
        self.wrong(RULES, (1, 0, None), 0, ("ask", 2, ("broken", 0), ("broken", 0)))
        long_way = ("ask", 0, ("ask", 1, ("broken", 1), ("broken", 1)), ("broken", 1))
        rules = Rules(("a", "b", "c"), ((0, 0, 1, 1), (2, 0, 2, 0)))
        other_way = ("ask", 0, ("broken", 1), ("ask", 1, ("broken", 1), ("broken", 1)))
        for tree in (long_way, other_way):
            self.right(rules, (None, None, 1), 2, tree)
            self.wrong(rules, (None, None, 1), 1, tree)

    def test_something_changed(self):
        self.wrong(RULES, ENDS, 0, TREE)
        for answers in (NONE, (1, None, None), (None, None, 0), (0, None, 0), (1, None, 1), (1, 0, 0), (1, 1, 0)):
            self.wrong(RULES, answers, 1, TREE)
        for changed in (
            ("ask", 1, ("broken", 1), ("broken", 0)), ("ask", 1, ("broken", 0), ("broken", 0)),
            ("ask", 1, ("broken", 1), ("broken", 1)), ("ask", 0, ("broken", 0), ("broken", 1)),
            ("ask", 2, ("broken", 0), ("broken", 1)), ("ask", 3, ("broken", 0), ("broken", 1)),
            ("ask", -2, ("broken", 0), ("broken", 1)), ("ask", True, ("broken", 0), ("broken", 1)),
            ("ask", 1.0, ("broken", 0), ("broken", 1)), ("ask", 1, ("broken", 0), ("broken", True)),
            ("ask", 1, ("broken", False), ("broken", 1)), ("ask", 1, ("broken", 0), ("broken", 2)),
            ("ask", 1, ("broken", 0), ("broken", -1)), ("ask", 1, ("broken", 0)), ("ask", 1), ("ask",),
            ("ask", 1, ("broken", 0), ("broken", 1), ()), ["ask", 1, ("broken", 0), ("broken", 1)],
            ("Ask", 1, ("broken", 0), ("broken", 1)), (b"ask", 1, ("broken", 0), ("broken", 1)),
            ("broken", 1, ("broken", 0), ("broken", 1)), ("ask", 1, ["broken", 0], ("broken", 1)),
            ("ask", 1, ("broken", 0), ("ask", 1)), ("ask", 1, ("broken", 0.0), ("broken", 1)),
            ("ask", 1, ("broken",), ("broken", 1)), ("ask", 1, ("broken", 0, 0), ("broken", 1)),
            ("ask", 1, ("broken", 0), ("ask", 1, ("broken", 0), ("broken", 1))), ("broken", 0), ("broken", 1),
            ("ask", 0),
        ):
            self.wrong(RULES, ENDS, 1, changed)
            self.wrong(RULES, ENDS, 3, changed)

    def test_numbers_of_no_thing(self):
        rules = Rules(("a", "b"), ((1, 0, 1, 0), (1, 1, 1, 1)))
        for thing in (1, -1, -2, 2, 3, 10 ** 400):
            tree = ("ask", thing, ("broken", 1), ("broken", 0))
            self.assertIs(is_asking_tree(rules, (None, None), 1, tree), thing == 1)

    def test_no_rule_is_broken(self):
        for number in range(-1, 3):
            self.wrong(RULES, NONE, 1, ("broken", number))
        self.wrong(RULES, (1, 0, None), 1, ("broken", 1))
        self.wrong(Rules(("a",), ()), (0,), 1, ("broken", 0))

    def test_a_thing_twice_on_a_way(self):
        rules = Rules(("a", "b"), ((0, 0, 0, 0), (0, 1, 0, 1)))
        again = ("ask", 0, ("broken", 1), ("broken", 0))
        self.right(rules, (None, None), 3, again)
        self.wrong(rules, (None, None), 3, ("ask", 0, again, again))
        self.right(rules, (None, None), 3, ("ask", 1, again, again))

    def test_values_of_all_kinds(self):
        for value in odd_values() + [deep_tuple(), Sour(), Yes(), ("broken", "0"), (Sour(), 0), (Yes(), 0)]:
            self.wrong(RULES, ENDS, 1, value)
            self.wrong(RULES, (1, 0, 0), 1, value)
            self.wrong(RULES, (1, 0, 0), 1, ("broken", value))
            self.wrong(RULES, (1, 0, 0), 1, (value, 0))
            self.wrong(RULES, ENDS, 2, ("ask", value, ("broken", 0), ("broken", 1)))
            self.wrong(RULES, ENDS, 2, ("ask", 1, value, ("broken", 1)))
            self.wrong(RULES, ENDS, 2, ("ask", 1, ("broken", 0), value))
            self.wrong(RULES, ENDS, 2, (value, 1, ("broken", 0), ("broken", 1)))

    def test_deep_ones(self):
        value = ("broken", 0)
        for _ in range(100000):
            value = ("ask", 1, value, value)
        self.wrong(RULES, ENDS, 10 ** 6, value)


class HeightTest(unittest.TestCase):
    def test_heights(self):
        self.assertEqual(asking_height(("broken", 5)), 0)
        self.assertEqual(asking_height(tree=TREE), 1)
        self.assertEqual(asking_height(("ask", 0, ("broken", 5), TREE)), 2)
        self.assertEqual(asking_height(("ask", 0, ("ask", 2, TREE, ("broken", 1)), TREE)), 3)


if __name__ == "__main__":
    unittest.main()
