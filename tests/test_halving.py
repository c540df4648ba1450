"""Points 43 and 45: attacks on times that are not held."""

import random

from saidatonce.attacks import Attack, Coming, TieBroken, is_attack
from saidatonce.errors import InvalidNumber
from saidatonce.halving import attack_on, batches_needed
from saidatonce.heights import all_things_of, attack_height, end_ties
from saidatonce.held import is_held
from saidatonce.playing import attack_behind, beaten_by, lot_of
from saidatonce.tables import Table
from tests.checks import Checks
from tests.odd import keeps, small_tables, weight_of
from tests.slow import LETTERS, game_keeps, great_table, random_times, ring_of, with_times

ROW = Table(("a", "b", "c", "d", "e"), ((0, 1, 1), (1, 2, 1), (2, 3, 1), (3, 4, 1)))
TIMES = (0, None, None, None, 3)
RING = Table(tuple(LETTERS), ring_of(12, 1))
BATCHES = [(), (1,), (2,), (3,), (1, 1), (1, 2), (2, 1), (1, 1, 1), (2, 2), (1, 1, 1, 1, 1), (12,), (100,) * 60]


class AttackCase(Checks):
    def judge(self, table, times, batches, chance):
        needed = batches_needed(table, times, batches)
        told = [many for many in range(len(batches) + 1) if not is_held(table, times, batches[:many])]
        self.assertEqual(needed, min(told, default=None))
        if needed is None:
            self.assertIs(is_held(table, times, batches), True)
            self.refused("held", attack_on, table, times, batches)
            return
        attack = attack_on(table, times, batches)
        for many in (needed, len(batches)):
            self.assertIs(is_attack(table, times, batches[:many], attack), True, (table.ties, times, batches))
        self.assertEqual(attack_height(attack), needed)
        self.assertEqual(end_ties(attack), attack.walk)
        passed = {thing for number in attack.walk for thing in table.ties[number][:2]}
        self.assertLessEqual(set(all_things_of(attack)), passed)
        for _ in range(3):
            self.play(table, times, batches, attack, [chance.randint(-9, 15) for _ in table.things])
        self.assertEqual(needed == 0, not keeps(table, times))

    def play(self, table, times, batches, attack, wishes):
        """Whatever is said, the attack goes on, and is right for the batches left, until a tie is broken."""
        behind, number = beaten_by(table, times, attack, tuple(wishes))
        x, y, weight = table.ties[number]
        self.assertLess(behind[y] - behind[x], weight)
        while not isinstance(attack.tree, TieBroken):
            lot = lot_of(attack)
            self.assertLessEqual(len(lot), batches[0])
            times = with_times(times, lot, [wishes[thing] for thing in lot])
            attack = attack_behind(table, times, attack)
            batches = batches[1:]
            self.assertIs(is_attack(table, times, batches, attack), True)
        self.assertEqual((times, attack.tree.tie), (behind, number))


class AttackTest(AttackCase):
    def test_the_examples_of_the_document(self):
        attack = attack_on(ROW, TIMES, (1, 1, 1))
        self.assertEqual((attack.walk, lot_of(attack)), ((0, 1, 2, 3), (2,)))
        self.assertEqual(batches_needed(ROW, TIMES, (1, 1, 1)), 2)
        self.assertEqual(beaten_by(ROW, TIMES, attack, (9, 5, 1, 2, 9)), ((0, 5, 1, None, 3), 1))
        self.assertEqual((attack_height(attack), end_ties(attack)), (2, (0, 1, 2, 3)))
        self.assertEqual(all_things_of(attack), (1, 2, 3))

    def test_small_tables(self):
        chance = random.Random(431)
        for table in small_tables(200, 6, 10, -4, 2, seed=431):
            times = random_times(chance, table)
            for batches in BATCHES:
                self.judge(table, times, batches, chance)

    def test_against_whole_games(self):
        chance = random.Random(432)
        for table in small_tables(60, 3, 5, -2, 2, seed=432):
            times = random_times(chance, table, 3, 3)
            for batches in BATCHES[:8]:
                told = [many for many in range(len(batches) + 1) if not game_keeps(table, times, batches[:many])]
                self.assertEqual(batches_needed(table, times, batches), min(told, default=None))

    def test_great_tables(self):
        chance = random.Random(433)
        for least, most in ((-9, 1), (-10 ** 6, 10 ** 6), (-100, 1), (-3, 0)):
            for share in (1, 2, 5):
                table = great_table(chance, least, most)
                times = random_times(chance, table, 10 ** 6, share)
                for batches in BATCHES:
                    self.judge(table, times, batches, chance)

    def test_long_rings_and_rows(self):
        chance = random.Random(434)
        row = Table(tuple(LETTERS), tuple((at, at + 1, 1) for at in range(11)))
        for table, times in (
            (RING, (None,) * 12), (RING, (None, 3) * 6), (RING, (4,) + (None,) * 11), (row, (0,) + (None,) * 10 + (10,)),
            (row, (0,) + (None,) * 4 + (2,) + (None,) * 5 + (10,)), (row, (0,) + (None,) * 10 + (11,)),
        ):
            for batches in BATCHES + [(1,) * 4, (1,) * 5, (3, 3), (2, 1, 2), (5, 1), (1, 11), (11, 1), (2, 2, 1)]:
                self.judge(table, times, batches, chance)

    def test_walks_longer_than_there_are_things(self):
        chance = random.Random(435)
        for exit_at in (1, 6, 11):
            ties = [(0, 1, 0)] + [(at, at + 1, 0) for at in range(1, 11)] + [(11, 1, 1), (exit_at, 0, 0)]
            table, times = Table(tuple(LETTERS), tuple(ties)), (0,) + (None,) * 11
            for batches in ((10,), (11,), (2, 6), (1, 1, 4), (1, 9), (1, 10)):
                self.judge(table, times, batches, chance)

    def test_a_tie_broken_now(self):
        broken = (0, 0, None, None, None)
        for batches in BATCHES:
            self.assertEqual(batches_needed(ROW, broken, batches), 0)
            attack = attack_on(ROW, broken, batches)
            self.assertEqual((attack.walk, attack.tree.tie, attack_height(attack)), ((0,), 0, 0))
        self.assertEqual(batches_needed(table=ROW, times=broken, batches=()), 0)
        self.assertIsInstance(attack_on(table=ROW, times=broken, batches=()), Attack)

    def test_rings_begin_with_what_comes(self):
        for batches in ((12,), (3, 3), (1, 1, 1, 1, 1), (11, 1)):
            if not is_held(RING, (None,) * 12, batches):
                attack = attack_on(RING, (None,) * 12, batches)
                self.assertIsInstance(attack.tree, Coming)
                self.assertIn(RING.ties[attack.walk[0]][0], attack.tree.things)

    def test_held_for_all(self):
        for batches in BATCHES:
            self.assertIsNone(batches_needed(ROW, (0, None, None, None, 4), batches))
            self.refused("held", attack_on, ROW, (0, None, None, None, 4), batches)
        self.assertIsNone(batches_needed(ROW, TIMES, ()))
        self.assertIsNone(batches_needed(ROW, TIMES, (2,)))
        self.assertEqual(batches_needed(ROW, TIMES, (3,)), 1)

    def test_no_right_attack_is_less_high(self):
        # all trees for the walk of 4 ties, one by one, that are 1 high would need three things at once
        attack = attack_on(ROW, TIMES, (3,))
        self.assertIs(is_attack(ROW, TIMES, (3,), attack), True)
        self.assertIs(is_attack(ROW, TIMES, (2, 1), attack), False)
        self.assertEqual(attack_height(attack), 1)

    def test_errors(self):
        for call in (batches_needed, attack_on):
            for batches in ((), None):
                self.takes_times(ROW, lambda times: call(ROW, times, batches))
            for times in (TIMES, (0, 0, None, None, None), (0, None, None, None, 4)):
                self.takes_batches(lambda batches: call(ROW, times, batches))
        self.raised(InvalidNumber, "batches", attack_on, ROW, (None,) * 5, None)
        self.assertEqual(weight_of(ROW, (0, 1)), 2)
