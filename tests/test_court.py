"""Points 26, 27 and 28: verdicts, and papers that a table is safe."""

import random
import unittest

from saidatonce.bounds import BoundPaper, is_bound_paper
from saidatonce.court import Barred, Safe, court, is_barring, is_safe, is_safe_paper, is_verdict, safe_paper
from saidatonce.errors import InvalidNumber, Refused
from saidatonce.squares import greatest_weights, joined_rows, tie_rows
from saidatonce.tables import Table
from tests.odd import Sour, Yes, odd_values, small_tables, weight_of
from tests.slow import LETTERS, first_reach, game_keeps, great_table, ring_of, slow_walks

RING = Table(("ale", "bun", "cod", "dab"), ((0, 1, 1), (1, 2, 1), (2, 3, 1), (3, 0, -2)))
ALONE = Table(("a",), ())
BATCHES = [(), (1,), (2,), (3,), (4,), (1, 1), (1, 2), (2, 1), (1, 1, 1), (100,) * 60]
NO_BATCHES = [[1], (0,), (101,), (True,), (1,) * 61, 1, (1, 0), (1.0,), (Sour(),), (Yes(),)]


class CourtTest(unittest.TestCase):
    def test_the_example_of_the_document(self):
        self.assertEqual((is_safe(RING, (1, 2)), is_safe(RING, (2, 1))), (True, False))
        self.assertEqual(len(court(RING, (1, 1, 1)).walk), 4)
        self.assertIs(is_verdict(RING, (2, 1), Barred((2, 3, 0, 1))), True)
        self.assertIs(is_verdict(RING, (1, 2), Barred((2, 3, 0, 1))), False)

    def judge(self, table, batches, shortest):
        """The shortest ring above 0 has so many ties, or there is none."""
        verdict = court(table, batches)
        safe = shortest is None or shortest > first_reach(batches)
        self.assertIs(is_safe(table, batches), safe)
        self.assertIs(is_verdict(table, batches, verdict), True)
        self.assertIs(is_verdict(table, batches, Safe()), safe)
        if safe:
            self.assertIsInstance(verdict, Safe)
        else:
            self.assertIsInstance(verdict, Barred)
            self.assertEqual(len(verdict.walk), shortest)
            self.assertGreater(weight_of(table, verdict.walk), 0)

    def test_rings(self):
        for count in range(2, 13):
            for weight in (-1, 0, 1):
                table = Table(tuple(LETTERS[:count]), ring_of(count, weight))
                for batches in BATCHES + [(count - 1,), (count,), (1, count - 1), (1, count)]:
                    if 0 not in batches:
                        self.judge(table, batches, count if weight > 0 else None)

    def test_small_tables(self):
        for table in small_tables(150, 4, 7, -3, 2, seed=26):
            found = slow_walks(table, len(table.things)) if len(table.ties) < 6 else None
            if found is not None:
                rings = [len(walk) for walk, one, other, weight in found if one == other and weight > 0]
                for batches in BATCHES:
                    self.judge(table, batches, min(rings, default=None))

    def test_against_whole_games(self):
        for table in small_tables(50, 3, 5, -2, 2, seed=27):
            for batches in ((), (1,), (2,), (1, 1), (3,), (2, 1), (1, 2)):
                self.assertIs(is_safe(table, batches), game_keeps(table, (None,) * len(table.things), batches))

    def test_rings_near_0_of_4_things(self):
        for weight in (0, 1):
            table = Table(tuple("abcd"), ring_of(4, weight))
            for batches in ((2,), (1, 1), (3,), (1, 2), (2, 1), (1, 1, 1), (4,)):
                self.assertIs(is_safe(table=table, batches=batches), game_keeps(table, (None,) * 4, batches))

    def test_great_tables(self):
        chance = random.Random(28)
        for least, most in ((-9, 1), (-10 ** 6, 10 ** 6)):
            table = great_table(chance, least, most)
            ring = court(table, (100,) * 60)
            for size in range(1, 13):
                self.judge(table, (size,), len(ring.walk) if isinstance(ring, Barred) else None)


class JudgedTest(unittest.TestCase):
    def test_barring(self):
        for batches in BATCHES:
            long_enough = first_reach(batches) >= 4
            for walk in ((0, 1, 2, 3), (2, 3, 0, 1)):
                self.assertIs(is_barring(RING, batches, walk), long_enough)
                self.assertIs(is_verdict(RING, batches, Barred(walk)), long_enough)
        self.assertIs(is_barring(table=RING, batches=(4,), value=(3, 0, 1, 2)), True)
        self.assertIs(is_verdict(table=RING, batches=(4,), value=Barred((3, 0, 1, 2))), True)

    def test_walks_that_pass_things_twice(self):
        twice = (0, 1, 2, 3) * 2
        self.assertIs(is_barring(RING, (7,), twice), False)
        self.assertIs(is_barring(RING, (8,), twice), True)
        self.assertIs(is_barring(RING, (100, 100), (0, 1, 2, 3) * 125), True)
        self.assertIs(is_barring(RING, (100, 100), (0, 1, 2, 3) * 126), False)

    def test_walks_that_do_not_bar(self):
        even = Table(("a", "b", "c"), ((0, 1, 1), (1, 0, -1), (1, 2, 5), (1, 0, 0)))
        for walk in ((), (0,), (2,), (0, 1), (0, 2), (0, 3, 0), (3, 1), (0, 0), (0, 4), (-1,), (0, -1), [0, 3]):
            self.assertIs(is_barring(even, (9,), walk), False)
            self.assertIs(is_verdict(even, (9,), Barred(walk)), False)
        self.assertIs(is_barring(even, (9,), (0, 3)), True)
        self.assertIs(is_barring(even, (9,), (3, 0)), True)

    def test_values_of_all_kinds(self):
        others = [(0, 1, 2, True), (0, 1, 2, 3.0), ((0, 1, 2, 3),), [0, 1, 2, 3], "0123", Safe, Barred]
        for value in odd_values() + others:
            self.assertIs(is_barring(RING, (4,), value), False)
            self.assertIs(is_verdict(RING, (4,), value), False)
            self.assertIs(is_verdict(RING, (1,), value), False)
            self.assertIs(is_verdict(RING, (4,), Barred(value)), False)
        self.assertIs(is_barring(RING, (4,), Barred((0, 1, 2, 3))), False)
        self.assertIs(is_verdict(RING, (4,), (0, 1, 2, 3)), False)

    def test_barred_keeps_any_value(self):
        for value in odd_values():
            self.assertIs(Barred(value).walk, value)
        self.assertEqual(Barred(walk=5).walk, 5)


class PaperTest(unittest.TestCase):
    def test_made_exactly_for_safe_tables(self):
        for table in small_tables(80, 4, 7, -3, 2, seed=29) + [RING, ALONE]:
            for batches in BATCHES:
                if is_safe(table, batches):
                    paper = safe_paper(table=table, batches=batches)
                    self.assertIs(is_safe_paper(table, batches, paper), True)
                    most = min(first_reach(batches), len(table.things))
                    self.assertIs(is_bound_paper(table, most, paper), True)
                else:
                    with self.assertRaises(Refused) as caught:
                        safe_paper(table, batches)
                    self.assertEqual(caught.exception.word, "barred")

    def test_fewer_ties_to_look_than_there_are_things(self):
        # the ring has 4 ties: papers for up to 3 are right, if they tell of as many as are due
        papers = {most: BoundPaper(*self.steps(RING, most)) for most in (0, 1, 2, 3)}
        for batches, due in (((), 0), ((1,), 1), ((1, 1), 2), ((2,), 2), ((1, 2), 3), ((3,), 3)):
            for most, paper in papers.items():
                self.assertIs(is_safe_paper(RING, batches, paper), most >= due)
        self.assertIs(is_safe_paper(RING, (4,), BoundPaper(*self.steps(RING, 4))), False)

    def test_more_ties_to_look_than_there_are_things(self):
        table = Table(tuple("abc"), ring_of(3, 0))
        for batches in ((3,), (4,), (100,) * 60, (1, 1, 1)):
            self.assertIs(is_safe_paper(table, batches, BoundPaper(*self.steps(table, 3))), True)
            self.assertIs(is_safe_paper(table, batches, BoundPaper(*self.steps(table, 2))), False)
        self.assertIs(is_safe_paper(table=table, batches=(2,), value=BoundPaper(*self.steps(table, 2))), True)

    def steps(self, table, most):
        """Steps of one tie more each, and their rows."""
        if most == 0:
            return (0,), (greatest_weights(table, 0),)
        steps, rows = [1], [tie_rows(table)]
        for _ in range(most - 1):
            steps.append((len(steps) - 1, 0))
            rows.append(joined_rows(rows[-1], rows[0]))
        return tuple(steps), tuple(rows)

    def test_0_from_each_thing_to_itself(self):
        table = Table(tuple("abc"), ring_of(3, 0))
        steps, rows = self.steps(table, 3)
        for thing in range(3):
            for entry, right in ((0, True), (1, False), (-1, False), (None, False)):
                last = [list(row) for row in rows[-1]]
                last[thing][thing] = entry
                paper = BoundPaper(steps, rows[:-1] + (tuple(tuple(row) for row in last),))
                self.assertIs(is_safe_paper(table, (3,), paper), right)

    def test_other_entries_may_be_greater(self):
        table = Table(tuple("abc"), ring_of(3, -5))
        steps, rows = self.steps(table, 3)
        last = tuple(tuple(0 if one == at else 77 for at in range(3)) for one in range(3))
        self.assertIs(is_safe_paper(table, (3,), BoundPaper(steps, rows[:-1] + (last,))), True)

    def test_papers_of_barred_tables(self):
        even = Table(tuple("abc"), ring_of(3, 0))
        ring = Table(tuple("abc"), ring_of(3, 1))
        for paper in (BoundPaper(*self.steps(ring, 3)), BoundPaper(*self.steps(even, 3)), safe_paper(ring, (2,))):
            self.assertIs(is_safe_paper(ring, (3,), paper), False)

    def test_values_of_all_kinds(self):
        for value in odd_values() + [Safe(), Barred((0,)), Safe]:
            self.assertIs(is_safe_paper(RING, (1,), value), False)
            self.assertIs(is_safe_paper(RING, (1,), BoundPaper(value, (tie_rows(RING),))), False)
            self.assertIs(is_safe_paper(RING, (1,), BoundPaper((1,), value)), False)
            self.assertIs(is_safe_paper(RING, (1,), BoundPaper((1,), (value,))), False)
            self.assertIs(is_safe_paper(RING, (1,), BoundPaper((value,), (tie_rows(RING),))), False)
        self.assertIs(is_safe_paper(RING, (1,), BoundPaper((1,), (tie_rows(RING),))), True)


class RaisedTest(unittest.TestCase):
    def test_batches(self):
        for value in odd_values() + NO_BATCHES:
            for call in (court, is_safe, safe_paper):
                with self.assertRaises(InvalidNumber) as caught:
                    call(RING, value)
                self.assertEqual(caught.exception.word, "batches")

    def test_those_that_do_not_raise(self):
        # batches somewhat beyond the limits
        for batches in ((101,), (1,) * 61):
            self.assertIs(is_barring(RING, batches, (0, 1, 2, 3)), True)
            self.assertIs(is_verdict(RING, batches, Barred((0, 1, 2, 3))), True)
            self.assertIs(is_verdict(RING, batches, Safe()), False)
            self.assertIs(is_safe_paper(RING, batches, None), False)


if __name__ == "__main__":
    unittest.main()
