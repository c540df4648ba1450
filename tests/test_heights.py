"""Point 45: how high and how wide attacks are."""

import random
import unittest

from saidatonce.attacks import Attack, Coming, TieBroken, is_attack
from saidatonce.heights import all_things_of, attack_height, end_ties
from saidatonce.tables import Table
from tests.slow import LETTERS

ROW = Table(("a", "b", "c", "d", "e"), ((0, 1, 1), (1, 2, 1), (2, 3, 1), (3, 4, 1)))
ENDS = (0, None, None, None, 3)


def end(tie):
    return (tie,), TieBroken(tie)


FIRST = Coming((1,), (end(0), end(1)))
SECOND = Coming((3,), (end(2), end(3)))
HALVED = Coming((2,), (((0, 1), FIRST), ((2, 3), SECOND)))


def random_attack(chance, count):
    """An attack on a chain of so many ties, with the walk cut anywhere, and how high it is."""
    def tree(begin, last):
        if last - begin == 1:
            return TieBroken(begin), 0, []
        lot = tuple(sorted(chance.sample(range(begin + 1, last), chance.randint(1, last - begin - 1))))
        marks = (begin,) + lot + (last,)
        told = [(tuple(range(one, other)), *tree(one, other)) for one, other in zip(marks, marks[1:])]
        high = 1 + max(height for _, _, height, _ in told)
        things = list(lot) + [thing for _, _, _, more in told for thing in more]
        return Coming(lot, tuple((walk, part) for walk, part, _, _ in told)), high, things
    made, high, things = tree(0, count)
    return Attack(tuple(range(count)), made), high, tuple(sorted(things))


class HeightsTest(unittest.TestCase):
    def told(self, attack, height, ends, things):
        self.assertEqual(attack_height(attack), height)
        self.assertEqual(end_ties(attack), ends)
        self.assertEqual(all_things_of(attack), things)

    def test_the_example_of_the_document(self):
        self.told(Attack((0, 1, 2, 3), HALVED), 2, (0, 1, 2, 3), (1, 2, 3))

    def test_one_end(self):
        self.told(Attack((5,), TieBroken(5)), 0, (5,), ())

    def test_names_of_parameters(self):
        attack = Attack((0, 1), FIRST)
        self.assertEqual((attack_height(attack=attack), end_ties(attack=attack)), (1, (0, 1)))
        self.assertEqual(all_things_of(attack=attack), (1,))

    def test_ways_of_unlike_heights(self):
        uneven = Coming((1,), (end(0), ((1, 2, 3), Coming((2,), (end(1), ((2, 3), SECOND))))))
        attack = Attack((0, 1, 2, 3), uneven)
        self.assertTrue(is_attack(ROW, ENDS, (1, 1, 1), attack))
        self.told(attack, 3, (0, 1, 2, 3), (1, 2, 3))
        turned = Coming((3,), (((0, 1, 2), Coming((1, 2), (end(0), end(1), end(2)))), end(3)))
        self.told(Attack((0, 1, 2, 3), turned), 2, (0, 1, 2, 3), (1, 2, 3))

    def test_empty_lots_count(self):
        tree = TieBroken(0)
        for height in range(61):
            attack = Attack((0,), tree)
            self.assertTrue(is_attack(ROW, (0, 0, None, None, None), (1,) * 60, attack))
            self.told(attack, height, (0,), ())
            tree = Coming((), (((0,), tree),))
        self.told(Attack((0, 1, 2, 3), Coming((), (((0, 1, 2, 3), HALVED),))), 3, (0, 1, 2, 3), (1, 2, 3))

    def test_the_same_thing_on_several_ways(self):
        # thing 1 comes on both ways from thing 0 to itself
        table = Table(("a", "b"), ((0, 1, 1), (1, 0, 0)))
        both = Coming((1,), (end(0), end(1)))
        attack = Attack((0, 1, 0, 1), Coming((), (((0, 1), both), ((0, 1), both))))
        self.assertTrue(is_attack(table, (0, None), (1, 1), attack))
        self.told(attack, 2, (0, 1, 0, 1), (1,))

    def test_things_that_are_not_on_the_walk(self):
        extra = Coming((1, 4), (end(0), end(1)))
        self.told(Attack((0, 1), extra), 1, (0, 1), (1, 4))

    def test_rings(self):
        ring = Coming((0, 1, 2), (end(0), end(1), end(2)))
        self.told(Attack((0, 1, 2), ring), 1, (0, 1, 2), (0, 1, 2))

    def test_random_ones(self):
        chance = random.Random(45)
        for count in list(range(1, 12)) * 8:
            attack, height, things = random_attack(chance, count)
            table = Table(tuple(LETTERS[:count + 1]), tuple((at, at + 1, 1) for at in range(count)))
            times = (0,) + (None,) * (count - 1) + (count - 1,)
            self.assertTrue(is_attack(table, times, (11,) * height, attack))
            self.told(attack, height, attack.walk, things)

    def test_long_walks(self):
        # the widest attack: 500 ties, all ends at once, below a row of empty lots
        tree = Coming((1,), tuple(end(at % 2) for at in range(500)))
        for _ in range(59):
            tree = Coming((), (((0, 1) * 250, tree),))
        table = Table(("a", "b"), ((0, 1, 1), (1, 0, 0)))
        attack = Attack((0, 1) * 250, tree)
        self.assertTrue(is_attack(table, (0, None), (1,) * 60, attack))
        self.told(attack, 60, (0, 1) * 250, (1,))


if __name__ == "__main__":
    unittest.main()
