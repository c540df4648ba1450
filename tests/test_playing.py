"""Point 44: attacks, played."""

import itertools
import random
import unittest

from saidatonce.attacks import Attack, Coming, TieBroken, is_attack
from saidatonce.errors import Refused
from saidatonce.playing import attack_behind, beaten_by, lot_of
from saidatonce.tables import Table
from tests.slow import LETTERS, ring_of, with_times
from tests.test_heights import ENDS, FIRST, HALVED, ROW, SECOND, end, random_attack

FAR = 10 ** 9
ATTACK = Attack((0, 1, 2, 3), HALVED)
RING = Table(tuple("abc"), ring_of(3, 1))
AROUND = Attack((0, 1, 2), Coming((0, 1, 2), (end(0), end(1), end(2))))


class BehindTest(unittest.TestCase):
    def refused(self, word, times, attack):
        with self.assertRaises(Refused) as caught:
            attack_behind(ROW, times, attack)
        self.assertEqual(caught.exception.word, word)

    def same(self, attack, walk, tree):
        self.assertIsInstance(attack, Attack)
        self.assertEqual(attack.walk, walk)
        self.assertIs(attack.tree, tree)

    def test_lots(self):
        self.assertEqual(lot_of(ATTACK), (2,))
        self.assertEqual(lot_of(attack=AROUND), (0, 1, 2))
        self.assertEqual(lot_of(Attack((0,), TieBroken(0))), ())
        self.assertEqual(lot_of(Attack((0,), Coming((), (end(0),)))), ())

    def test_the_first_part_that_weighs_too_much(self):
        # thing 2 splits the walk into two parts of 2; the ends are 3 apart
        for time in (-FAR, -5, 0, 1):
            self.same(attack_behind(ROW, (0, None, time, None, 3), ATTACK), (0, 1), FIRST)
        for time in (2, 3, 9, FAR):
            self.same(attack_behind(ROW, (0, None, time, None, 3), ATTACK), (2, 3), SECOND)
        self.same(attack_behind(table=ROW, times=(0, None, 1, None, 3), attack=ATTACK), (0, 1), FIRST)

    def test_more_than_one_part_weighs_too_much(self):
        tree = Coming((1, 2, 3), (end(0), end(1), end(2), end(3)))
        for times, tie in (
            ((0, 0, 0, 0, 3), 0), ((0, 1, 1, 1, 3), 1), ((0, 1, 2, 2, 3), 2), ((0, 1, 2, 3, 3), 3),
            ((0, 5, 4, 3, 3), 1), ((0, 5, 6, 3, 3), 2), ((0, 0, 9, 9, 3), 0),
        ):
            told = attack_behind(ROW, times, Attack((0, 1, 2, 3), tree))
            self.assertEqual((told.walk, told.tree.tie), ((tie,), tie))

    def test_an_empty_lot(self):
        later = Attack((0, 1, 2, 3), Coming((), (((0, 1, 2, 3), HALVED),)))
        self.same(attack_behind(ROW, ENDS, later), (0, 1, 2, 3), HALVED)

    def test_the_end(self):
        over = Attack((0,), TieBroken(0))
        for times in (ENDS, (0, 0, None, None, None), (0, 5, None, None, None), (None,) * 5):
            self.refused("end", times, over)

    def test_no_such_part(self):
        # times to which the attack does not belong
        for times in ((0, None, 2, None, 4), (0, None, 5, None, 9), (-FAR, None, 0, None, FAR)):
            self.refused("kept", times, ATTACK)
        # an end that has not come
        for times in ((None,) * 5, (0, None, None, None, 3), (None, None, 5, None, None), (0, None, None, None, None)):
            self.refused("kept", times, ATTACK)
        self.same(attack_behind(ROW, (None, None, 2, None, 3), ATTACK), (2, 3), SECOND)

    def test_what_goes_on_is_right(self):
        chance = random.Random(44)
        for count in list(range(2, 12)) * 5:
            attack, height, _ = random_attack(chance, count)
            table = Table(tuple(LETTERS[:count + 1]), tuple((at, at + 1, 1) for at in range(count)))
            times = (0,) + (None,) * (count - 1) + (count - 1,)
            batches = (11,) * height
            while batches:
                self.assertTrue(is_attack(table, times, batches, attack))
                if isinstance(attack.tree, TieBroken):
                    break
                lot = lot_of(attack)
                times = with_times(times, lot, [chance.randint(-3, count + 3) for _ in lot])
                attack = attack_behind(table, times, attack)
                batches = batches[1:]
            self.assertTrue(is_attack(table, times, batches, attack))
            self.assertIsInstance(attack.tree, TieBroken)


class BeatenTest(unittest.TestCase):
    def is_beaten(self, table, times, attack, wishes):
        told = beaten_by(table, times, attack, wishes)
        self.assertIsInstance(told, tuple)
        behind, tie = told
        x, y, weight = table.ties[tie]
        self.assertLess(behind[y] - behind[x], weight)
        for before, own, wish in zip(times, behind, wishes):
            self.assertIn(own, (before,) if before is not None else (None, wish))
        return told

    def test_the_example_of_the_document(self):
        self.assertEqual((ATTACK.walk, lot_of(ATTACK)), ((0, 1, 2, 3), (2,)))
        self.assertEqual(beaten_by(ROW, ENDS, ATTACK, (9, 5, 1, 2, 9)), ((0, 5, 1, None, 3), 1))

    def test_at_the_end_nothing_comes(self):
        times = (0, 0, None, None, None)
        self.assertEqual(self.is_beaten(ROW, times, Attack((0,), TieBroken(0)), (9,) * 5), (times, 0))

    def test_all_small_wishes(self):
        for wishes in itertools.product((-2, 0, 1, 2, 3, 5), repeat=3):
            self.is_beaten(ROW, ENDS, ATTACK, (7,) + wishes + (7,))
            self.is_beaten(RING, (None,) * 3, AROUND, wishes)
        for wishes in itertools.product(range(-2, 3), repeat=3):
            halved = Attack((0, 1, 2), Coming((0, 1), (end(0), ((1, 2), Coming((2,), (end(1), end(2)))))))
            self.assertTrue(is_attack(RING, (None,) * 3, (2, 1), halved))
            self.is_beaten(RING, (None,) * 3, halved, wishes)

    def test_wishes_of_any_size(self):
        chance = random.Random(45)
        for count in list(range(1, 12)) * 5:
            attack, height, _ = random_attack(chance, count)
            table = Table(tuple(LETTERS[:count + 1]), tuple((at, at + 1, 1) for at in range(count)))
            times = (0,) + (None,) * (count - 1) + (count - 1,)
            for size in (1, count, FAR):
                self.is_beaten(table, times, attack, tuple(chance.randint(-size, size) for _ in range(count + 1)))
            self.is_beaten(table, times, attack, (FAR,) * (count + 1))
            self.is_beaten(table, times, attack, (-FAR,) * (count + 1))
            self.is_beaten(table, times, attack, tuple(range(count + 1)))

    def test_names_of_parameters(self):
        told = beaten_by(table=ROW, times=ENDS, attack=ATTACK, wishes=(9, 5, 1, 2, 9))
        self.assertEqual(told, ((0, 5, 1, None, 3), 1))
        self.assertEqual(ENDS, (0, None, None, None, 3))


if __name__ == "__main__":
    unittest.main()
