"""Point 69, papers: spots that are too far apart."""

import itertools
import random
import unittest

from saidatonce.errors import Refused
from saidatonce.farpapers import FarPaper, far_paper, is_far_paper
from saidatonce.places import is_placed, place_distances
from saidatonce.reach import walk_reach
from saidatonce.tables import Table
from tests.odd import Sour, Yes, odd_values, small_tables
from tests.test_places import all_spots, random_roads, slow_distances

LINE = ((0, 1), (1, 2), (2, 3), (3, 4))
ROW = Table(("a", "b", "c"), ((0, 1, 1), (2, 1, 1), (0, 2, 9)))
APART = (0, None, 3)
BELOW = Table(("a", "b", "c"), ((0, 1, 1), (1, 2, -1)))


def slow_right(table, roads, spots, batches, things, ties):
    """Whether things and ties, tuples of numbers, are a right paper, by its words."""
    if len(things) != len(ties) + 1 or len(ties) > walk_reach(batches):
        return False
    for at, tie in enumerate(ties):
        if {table.ties[tie][0], table.ties[tie][1]} != {things[at], things[at + 1]}:
            return False
    first, last = spots[things[0]], spots[things[-1]]
    if first is None or last is None:
        return False
    return slow_distances(roads)[first][last] > sum(table.ties[tie][2] for tie in ties)


class MadeTest(unittest.TestCase):
    def test_it_keeps_any_values(self):
        for value in odd_values():
            self.assertIs(FarPaper(value, 1).things, value)
            self.assertIs(FarPaper(1, value).ties, value)
        paper = FarPaper(ties=5, things=6)
        self.assertEqual((paper.ties, paper.things), (5, 6))


class ReturnedTest(unittest.TestCase):
    def judge(self, table, roads, spots, batches):
        paper = far_paper(table, roads, spots, batches)
        self.assertIs(paper is None, is_placed(table, roads, spots, batches))
        if paper is not None:
            self.assertIsInstance(paper, FarPaper)
            self.assertIs(is_far_paper(table, roads, spots, batches, paper), True)
            self.assertTrue(slow_right(table, roads, spots, batches, paper.things, paper.ties))
        return paper

    def test_a_row(self):
        self.assertIsNone(self.judge(ROW, LINE, APART, ()))
        paper = self.judge(ROW, LINE, APART, (1,))
        self.assertIn((paper.things, paper.ties), (((0, 1, 2), (0, 1)), ((2, 1, 0), (1, 0))))
        self.assertIsNone(self.judge(ROW, LINE, (0, None, 2), (1,)))
        self.assertIsNone(far_paper(table=ROW, roads=LINE, spots=(None, 0, None), batches=(100,) * 60))

    def test_small_tables(self):
        roads = ((), ((1, 0),), ((0, 1), (2, 1)), LINE, ((3, 0), (1, 3), (3, 2)))
        for number, table in enumerate(small_tables(40, 4, 6, 0, 2, seed=69)):
            for spots in all_spots(table, roads[number % 5][:3]):
                for batches in ((), (1,), (2, 1)):
                    self.judge(table, roads[number % 5], spots, batches)

    def test_great_tables(self):
        chance = random.Random(68)
        names = tuple("abcdefghijkl")
        found = 0
        for number in range(201):
            roads = random_roads(chance, 39) if number % 2 else tuple((at, at + 1) for at in range(39))
            ties = [(at, at + 1, chance.randint(0, 2)) for at in range(11)]
            ties += [(*chance.sample(range(12), 2), chance.randint(0, 9)) for _ in range(number % 7)]
            chance.shuffle(ties)
            ties = tuple((x, y, weight) if chance.random() < 0.5 else (y, x, weight) for x, y, weight in ties)
            spots = tuple(chance.choice((None, None, None, chance.randrange(40))) for _ in names)
            batches = ((), (1,), (2,), (1, 1), (2, 1), (11,), (12,), (3,), (100,) * 60)[number % 9]
            paper = self.judge(Table(names, ties), roads, spots, batches)
            found += paper is not None and len(paper.ties) > 3
        self.assertGreater(found, 20)

    def test_a_weight_below_0(self):
        for spots in ((0, None, 4), (0, 4, 4), (None,) * 3, (0, 0, 0)):
            for batches in ((), (1,), (3, 3)):
                with self.assertRaises(Refused) as caught:
                    far_paper(BELOW, LINE, spots, batches)
                self.assertEqual(caught.exception.word, "weight")
        self.assertIsNone(far_paper(Table(("a", "b"), ((0, 1, 0),)), LINE, (2, 2), (1,)))


class JudgedTest(unittest.TestCase):
    def judged(self, right, things, ties, spots=APART, batches=(1,), table=ROW, roads=LINE):
        self.assertIs(is_far_paper(table, roads, spots, batches, FarPaper(things, ties)), right)

    def test_ways_there_and_back(self):
        self.judged(True, (0, 1, 2), (0, 1))
        self.judged(True, (2, 1, 0), (1, 0))
        paper = FarPaper((0, 1, 2), (0, 1))
        self.assertIs(is_far_paper(table=ROW, roads=LINE, spots=APART, batches=(1,), value=paper), True)

    def test_ties_that_lead_elsewhere(self):
        for things, ties in (((0, 1, 2), (1, 0)), ((0, 1, 2), (0, 0)), ((0, 1, 2), (0, 2)), ((0, 2, 1), (0, 1)),
                             ((0, 0, 2), (0, 1)), ((0, 2, 2), (2, 2)), ((0, 1, 1), (0, 1)), ((1, 0, 2), (0, 1))):
            self.judged(False, things, ties)
        self.judged(False, (0, 2), (2,))

    def test_lengths(self):
        for things, ties in (((0, 1, 2), (0,)), ((0, 1), (0, 1)), ((0, 1, 2, 2), (0, 1)), ((0, 2), ()), ((), ()),
                             ((), (0,)), ((0, 1, 2), ())):
            self.judged(False, things, ties)

    def test_so_many_ties_and_one_more(self):
        table = Table(("a", "b", "c"), ((0, 1, 0), (1, 2, 0)))
        for batches in ((), (1,), (2,), (1, 1), (2, 1), (1, 2)):
            reach = walk_reach(batches)
            for many in range(2, 9, 2):
                things = (0, 1) * (many // 2) + (2,)
                ties = (0,) * (many - 1) + (1,)
                self.judged(many <= reach, things, ties, (0, None, 1), batches, table)
        table = Table(("a", "b"), ((0, 1, 0),))
        for batches, reach in (((), 1), ((2,), 3), ((4,), 5), ((2, 2), 9)):
            for many in range(1, 14, 2):
                things = (0, 1) * ((many + 1) // 2)
                self.judged(many <= reach, things, (0,) * many, (0, 1), batches, table)

    def test_more_than_500_ties(self):
        table = Table(("a", "b"), ((0, 1, 0),))
        self.judged(True, (0, 1) * 301, (0,) * 601, (0, 1), (100, 100), table)

    def test_ends_that_have_not_come(self):
        for spots in ((None, None, 3), (0, None, None), (None, 0, None), (None,) * 3):
            self.judged(False, (0, 1, 2), (0, 1), spots)
        self.judged(True, (0, 1, 2), (0, 1), (0, 2, 3))
        self.judged(True, (0, 1), (0,), (0, 2, None))
        self.judged(False, (0, 1), (0,), (0, None, 3))

    def test_how_far_apart(self):
        for far in range(5):
            self.judged(far > 2, (0, 1, 2), (0, 1), (0, None, far))
            self.judged(far > 1, (0, 1), (0,), (far, 0, None))
        star = ((4, 0), (4, 1), (4, 2), (4, 3))
        self.judged(False, (0, 1, 2), (0, 1), (0, None, 3), (1,), ROW, star)
        self.judged(True, (0, 1), (0,), (0, 3, None), (1,), ROW, star)

    def test_without_ties(self):
        self.judged(False, (0,), ())
        self.judged(False, (1,), ())

    def test_weights_below_0_do_not_matter(self):
        table = Table(("a", "b"), ((0, 1, -1), (0, 1, 1)))
        self.judged(True, (0, 1), (0,), (0, 0), (), table)
        self.judged(False, (0, 1), (1,), (0, 0), (), table)
        self.judged(True, (0, 1, 0), (0, 0), (0, None), (1,), table)
        self.judged(False, (0, 1, 0), (0, 1), (0, None), (1,), table)
        self.judged(False, (0, 1, 0), (0, 0), (0, None), (), table)
        self.judged(True, (0, 1, 2), (0, 1), (0, None, 1), (1,), BELOW)
        self.assertIs(is_far_paper(BELOW, LINE, (0, 0, 0), (1,), None), False)

    def test_other_values(self):
        for value in odd_values() + [((0, 1, 2), (0, 1)), FarPaper, ROW]:
            self.assertIs(is_far_paper(ROW, LINE, APART, (1,), value), False)
            self.judged(False, value, (0, 1))
            self.judged(False, (0, 1, 2), value)
            self.judged(False, (value,), ())
        for number in odd_values() + [3, -1, -3, 10 ** 400, "1", (1,), [1]]:
            for at in range(3):
                things = [0, 1, 2]
                things[at] = number
                self.judged(False, tuple(things), (0, 1))
            for at in range(2):
                ties = [0, 1]
                ties[at] = number
                self.judged(False, (0, 1, 2), tuple(ties))
        self.judged(False, [0, 1, 2], (0, 1))
        self.judged(False, (0, 1, 2), [0, 1])

    def test_all_small_papers(self):
        table = Table(("a", "b", "c"), ((0, 1, 1), (2, 1, 0)))
        for spots in ((0, None, 2), (0, 1, 2), (None, 0, 3), (3, 0, None)):
            for batches in ((), (1,)):
                for many in range(4):
                    for things in itertools.product(range(3), repeat=many + 1):
                        for ties in itertools.product(range(2), repeat=many):
                            right = slow_right(table, LINE, spots, batches, things, ties)
                            self.judged(right, things, ties, spots, batches, table)

    def test_there_is_one_exactly_if_spots_are_not_placed(self):
        table = Table(("a", "b", "c"), ((0, 1, 1), (2, 1, 0), (0, 2, 2)))
        for spots in all_spots(table, LINE[:2]):
            for batches in ((), (1,), (2,)):
                some = any(
                    slow_right(table, LINE, spots, batches, things, ties)
                    for many in range(walk_reach(batches) + 1)
                    for things in itertools.product(range(3), repeat=many + 1)
                    for ties in itertools.product(range(3), repeat=many)
                )
                self.assertIs(far_paper(table, LINE, spots, batches) is not None, some)
        self.assertEqual(place_distances(LINE), slow_distances(LINE))


if __name__ == "__main__":
    unittest.main()
