"""Point 24: papers of bounds."""

import random
import unittest

from saidatonce.bounds import BoundPaper, bound_paper, is_bound_paper
from saidatonce.squares import greatest_weights, joined_rows, tie_rows
from saidatonce.tables import Table
from tests.odd import Sour, Yes, odd_values, small_tables, walks_from, weight_of

TABLE = Table(("a", "b", "c"), ((0, 1, 2), (1, 2, 3), (0, 2, 4), (2, 0, -6)))
STILL = ((0, None, None), (None, 0, None), (None, None, 0))
SINGLE = tie_rows(TABLE)
DOUBLE = joined_rows(SINGLE, SINGLE)
TRIPLE = joined_rows(DOUBLE, SINGLE)
RISING = Table(("a", "b"), ((0, 1, 1), (1, 0, 0)))
GREAT = 10 ** 130


def with_entry(rows, one, other, entry):
    """The rows with another entry at a place."""
    changed = [list(row) for row in rows]
    changed[one][other] = entry
    return tuple(tuple(row) for row in changed)


class MadeTest(unittest.TestCase):
    def test_it_keeps_any_values(self):
        for value in odd_values():
            self.assertIs(BoundPaper(value, 1).steps, value)
            self.assertIs(BoundPaper(1, value).rows, value)
        paper = BoundPaper(rows=5, steps=6)
        self.assertEqual((paper.rows, paper.steps), (5, 6))


class ReturnedTest(unittest.TestCase):
    def judge(self, table, most):
        paper = bound_paper(table, most)
        self.assertIsInstance(paper, BoundPaper)
        self.assertIs(is_bound_paper(table, most, paper), True)
        self.assertEqual(paper.rows[-1], greatest_weights(table, most))
        self.assertEqual(len(paper.rows), len(paper.steps))
        self.assertLessEqual(len(paper.steps), 2 * len(bin(most)[2:] if most else "") + 2)

    def test_no_ties_and_one(self):
        self.assertEqual(bound_paper(TABLE, 0).rows[-1], STILL)
        self.assertEqual(bound_paper(table=TABLE, most=1).rows[-1], SINGLE)
        for table in small_tables(20, 4, 6, seed=24):
            self.judge(table, 0)
            self.judge(table, 1)

    def test_small_numbers(self):
        for table in small_tables(30, 4, 7, seed=25) + [TABLE, RISING]:
            for most in range(20):
                self.judge(table, most)

    def test_great_numbers(self):
        numbers = [2 ** 64 - 1, 2 ** 64, 2 ** 64 + 1, 10 ** 100 + 7, 2 ** 431 - 1, GREAT - 1, GREAT]
        for table in small_tables(4, 3, 6, seed=26) + [TABLE, RISING]:
            for most in numbers:
                self.judge(table, most)

    def test_great_tables(self):
        chance = random.Random(27)
        ties = tuple((*chance.sample(range(12), 2), chance.randint(-10 ** 6, 10 ** 6)) for _ in range(60))
        for most in (2, 11, 12, 63, GREAT):
            self.judge(Table(tuple("abcdefghijkl"), ties), most)

    def test_a_ring_above_0(self):
        self.assertEqual(bound_paper(RISING, GREAT).rows[-1], ((GREAT // 2,) * 2, (GREAT // 2 - 1, GREAT // 2)))

    def test_no_walk_is_heavier(self):
        for table in small_tables(20, 3, 5, seed=28):
            for most in range(5):
                rows = bound_paper(table, most).rows[-1]
                for thing in range(len(table.things)):
                    for walk, end in walks_from(table, thing, most):
                        self.assertLessEqual(weight_of(table, walk), rows[thing][end])


class JudgedTest(unittest.TestCase):
    def right(self, most, steps, rows, table=TABLE):
        self.assertIs(is_bound_paper(table, most, BoundPaper(steps, rows)), True)

    def wrong(self, most, steps, rows, table=TABLE):
        self.assertIs(is_bound_paper(table, most, BoundPaper(steps, rows)), False)

    def test_right_ones(self):
        self.right(0, (0,), (STILL,))
        self.right(1, (1,), (SINGLE,))
        self.right(2, (1, (0, 0)), (SINGLE, DOUBLE))
        self.right(3, (1, (0, 0), (1, 0)), (SINGLE, DOUBLE, TRIPLE))
        self.right(3, (1, (0, 0), (0, 1)), (SINGLE, DOUBLE, TRIPLE))
        self.right(3, (0, 1, 1, (1, 2), (2, 3)), (STILL, SINGLE, SINGLE, DOUBLE, TRIPLE))
        self.right(1, (0, 1, (0, 1), (2, 0)), (STILL, SINGLE, SINGLE, SINGLE))
        self.assertIs(is_bound_paper(table=TABLE, most=1, value=BoundPaper((1,), (SINGLE,))), True)

    def test_more_ties_than_asked_for(self):
        for most in (0, 1, 2, 3, 4):
            self.right(most, (1, (0, 0), (1, 1)), (SINGLE, DOUBLE, joined_rows(DOUBLE, DOUBLE)))

    def test_too_few_ties_at_the_last_step(self):
        self.wrong(1, (0,), (STILL,))
        self.wrong(2, (1,), (SINGLE,))
        self.wrong(3, (1, (0, 0)), (SINGLE, DOUBLE))
        self.wrong(5, (1, (0, 0), (1, 1)), (SINGLE, DOUBLE, joined_rows(DOUBLE, DOUBLE)))
        self.wrong(2, (1, (0, 0), 1), (SINGLE, DOUBLE, SINGLE))
        self.wrong(1, (1, 0), (SINGLE, STILL))
        self.wrong(1, (0, (0, 0), (1, 1)), (STILL, STILL, STILL))
        self.wrong(2, (0, 1, (0, 1)), (STILL, SINGLE, SINGLE))
        steps = (1,) + tuple((at, at) for at in range(70))
        rows = [SINGLE]
        for _ in range(70):
            rows.append(joined_rows(rows[-1], rows[-1]))
        self.right(2 ** 70, steps, tuple(rows))
        self.wrong(2 ** 70 + 1, steps, tuple(rows))
        self.wrong(GREAT, steps, tuple(rows))

    def test_other_steps(self):
        for step in odd_values() + [2, -1, (0,), (0, 0, 0), [0, 0], (0, True), (False, 0), (0, 0.0), (0, None), "1"]:
            self.wrong(0, (step,), (SINGLE,))
            self.wrong(0, (1, step), (SINGLE, DOUBLE))
            self.wrong(0, (1, (0, 0), step, (1, 1)), (SINGLE, DOUBLE, DOUBLE, joined_rows(DOUBLE, DOUBLE)))
            self.wrong(0, (1, (0, step)), (SINGLE, DOUBLE))
        for step in (True, False, 1.0):
            self.wrong(0, (step,), (SINGLE,))

    def test_a_pair_with_a_later_number(self):
        for step in ((0, 1), (1, 0), (1, 1), (2, 0), (0, 2), (-1, 0), (0, -1), (0, 10 ** 400)):
            self.wrong(0, (1, step), (SINGLE, DOUBLE))
            self.wrong(0, (1, step, 1), (SINGLE, DOUBLE, DOUBLE))
        self.wrong(0, ((0, 0),), (DOUBLE,))
        self.wrong(0, ((0, 0), 1), (DOUBLE, DOUBLE))
        self.right(2, (1, 1, (0, 1), (0, 2)), (SINGLE, SINGLE, DOUBLE, TRIPLE))
        self.wrong(2, (1, 1, (0, 2), (0, 2)), (SINGLE, SINGLE, DOUBLE, TRIPLE))

    def test_lengths(self):
        self.wrong(0, (), ())
        self.wrong(1, (1,), ())
        self.wrong(1, (), (SINGLE,))
        self.wrong(1, (1,), (SINGLE, SINGLE))
        self.wrong(2, (1, (0, 0)), (DOUBLE,))
        self.wrong(2, (1, (0, 0)), (SINGLE, DOUBLE, DOUBLE))

    def test_entries_below_what_is_due(self):
        cases = ((0, (0,), (STILL,)), (1, (1,), (SINGLE,)), (3, (1, (0, 0), (1, 0)), (SINGLE, DOUBLE, TRIPLE)))
        for most, steps, rows in cases:
            last = rows[-1]
            for one in range(3):
                for other in range(3):
                    due = last[one][other]
                    if due is not None:
                        self.wrong(most, steps, rows[:-1] + (with_entry(last, one, other, due - 1),))
                        self.wrong(most, steps, rows[:-1] + (with_entry(last, one, other, None),))
                        self.wrong(most, steps, rows[:-1] + (with_entry(last, one, other, -10 ** 400),))
                    for entry in (due or 0, (due or 0) + 1, 10 ** 400):
                        self.right(most, steps, rows[:-1] + (with_entry(last, one, other, entry),))

    def test_earlier_rows_below_what_is_due(self):
        rows = (SINGLE, DOUBLE, TRIPLE)
        for at in (0, 1):
            for one in range(3):
                for other in range(3):
                    if rows[at][one][other] is not None:
                        less = with_entry(rows[at], one, other, rows[at][one][other] - 1)
                        self.wrong(3, (1, (0, 0), (1, 0)), rows[:at] + (less,) + rows[at + 1:])

    def test_what_is_due_goes_by_the_rows_told(self):
        more = with_entry(SINGLE, 1, 0, 0)
        self.wrong(2, (1, (0, 0)), (more, DOUBLE))
        self.right(2, (1, (0, 0)), (more, joined_rows(more, more)))
        self.wrong(2, (1, 1, (0, 1)), (more, SINGLE, DOUBLE))
        self.right(2, (1, 1, (0, 1)), (more, SINGLE, joined_rows(more, SINGLE)))
        self.wrong(2, (1, 1, (0, 1)), (more, SINGLE, joined_rows(SINGLE, more)))
        self.right(2, (1, 1, (1, 0)), (more, SINGLE, joined_rows(SINGLE, more)))

    def test_0_from_each_thing_to_itself(self):
        for rows, step in ((STILL, 0), (SINGLE, 1)):
            for thing in range(3):
                self.wrong(0, (step,), (with_entry(rows, thing, thing, None),))
                self.wrong(0, (step,), (with_entry(rows, thing, thing, -1),))
                self.right(0, (step,), (with_entry(rows, thing, thing, 1),))

    def test_other_rows(self):
        for value in odd_values() + [SINGLE[:2], SINGLE + (SINGLE[0],), list(SINGLE), (SINGLE[0],) * 2]:
            self.wrong(0, (1,), (value,))
            self.wrong(0, (0,), (value,))
            self.wrong(0, (1, (0, 0)), (SINGLE, value))
            self.wrong(0, (1, (0, 0)), (value, DOUBLE))
        for row in odd_values() + [SINGLE[0][:2], SINGLE[0] + (None,), list(SINGLE[0])]:
            self.wrong(0, (1,), ((row,) + SINGLE[1:],))
            self.wrong(0, (1,), (SINGLE[:2] + (row,),))
        for entry in (True, False, 10.0, "5", (5,), [5], Sour(), Yes(), b"5"):
            for one in range(3):
                for other in range(3):
                    self.wrong(0, (1,), (with_entry(SINGLE, one, other, entry),))

    def test_other_values(self):
        for value in odd_values() + [((1,), (SINGLE,)), SINGLE, BoundPaper, TABLE]:
            self.assertIs(is_bound_paper(TABLE, 0, value), False)
            self.assertIs(is_bound_paper(TABLE, 1, value), False)
            self.wrong(0, value, (SINGLE,))
            self.wrong(0, (1,), value)
        self.wrong(1, [1], (SINGLE,))
        self.wrong(1, (1,), [SINGLE])

    def test_one_thing(self):
        table = Table(("a",), ())
        self.right(7, (1, (0, 0), (1, 1), (2, 2)), (((0,),),) * 4, table)
        self.right(7, (1, (0, 0), (1, 1), (2, 2)), (((0,),), ((1,),), ((2,),), ((4,),)), table)
        self.wrong(7, (1, (0, 0), (1, 1), (2, 2)), (((0,),), ((1,),), ((2,),), ((3,),)), table)
        self.wrong(9, (1, (0, 0), (1, 1), (2, 2)), (((0,),),) * 4, table)

    def test_long_papers(self):
        table = Table(("a", "b"), ((0, 1, -1), (1, 0, 0)))
        rows = ((0, -1), (0, 0))
        steps = (1,) + tuple((at, at) for at in range(5000))
        self.right(GREAT, steps, (rows,) * 5001, table)
        self.wrong(0, steps, (rows,) * 5000 + (((0, -2), (0, 0)),), table)


if __name__ == "__main__":
    unittest.main()
