"""Points 41 and 42: attacks, and which are right."""

import itertools
import unittest

from saidatonce.attacks import Attack, Coming, TieBroken, is_attack
from saidatonce.errors import InvalidNumber, InvalidTimes
from saidatonce.tables import Table
from tests.odd import Sour, Yes, deep_tuple, keeps, odd_values, small_tables, walks_from, weight_of

ROW = Table(("a", "b", "c", "d", "e"), ((0, 1, 1), (1, 2, 1), (2, 3, 1), (3, 4, 1)))
ENDS = (0, None, None, None, 3)
RING = Table(("a", "b", "c"), ((0, 1, 1), (1, 2, 0), (2, 0, 0)))
NONE = (None, None, None)


def end(tie):
    return (tie,), TieBroken(tie)


def halved():
    """The tree for the walk of all ties of ROW: first what is in the middle comes, then the other two."""
    first = Coming((1,), (end(0), end(1)))
    second = Coming((3,), (end(2), end(3)))
    return Coming((2,), (((0, 1), first), ((2, 3), second)))


def ring_tree():
    return Coming((0, 1, 2), (end(0), end(1), end(2)))


class AttackCase(unittest.TestCase):
    def right(self, table, times, batches, walk, tree):
        self.assertIs(is_attack(table, times, batches, Attack(walk, tree)), True)

    def wrong(self, table, times, batches, walk, tree):
        self.assertIs(is_attack(table, times, batches, Attack(walk, tree)), False)


class MadeTest(unittest.TestCase):
    def test_they_keep_any_values(self):
        for value in odd_values():
            self.assertIs(TieBroken(value).tie, value)
            self.assertIs(Coming(value, 1).things, value)
            self.assertIs(Coming(1, value).parts, value)
            self.assertIs(Attack(value, 1).walk, value)
            self.assertIs(Attack(1, value).tree, value)
        coming, attack = Coming(parts=5, things=6), Attack(tree=7, walk=8)
        self.assertEqual((coming.parts, coming.things, attack.tree, attack.walk), (5, 6, 7, 8))
        self.assertEqual(TieBroken(tie=9).tie, 9)


class RightTest(AttackCase):
    def test_halved(self):
        self.right(ROW, ENDS, (1, 1), (0, 1, 2, 3), halved())
        self.right(ROW, ENDS, (1, 1, 1), (0, 1, 2, 3), halved())
        self.right(ROW, ENDS, (100,) * 60, (0, 1, 2, 3), halved())
        attack = Attack((0, 1, 2, 3), halved())
        self.assertIs(is_attack(table=ROW, times=ENDS, batches=(1, 1), value=attack), True)

    def test_all_at_once(self):
        tree = Coming((1, 2, 3), (end(0), end(1), end(2), end(3)))
        self.right(ROW, ENDS, (3,), (0, 1, 2, 3), tree)
        self.right(ROW, ENDS, (4,), (0, 1, 2, 3), tree)
        self.wrong(ROW, ENDS, (2,), (0, 1, 2, 3), tree)

    def test_a_tie_that_is_broken_now(self):
        self.right(ROW, (0, 0, None, None, None), (), (0,), TieBroken(0))
        self.right(ROW, (0, 0, None, None, None), (1, 1), (0,), TieBroken(0))
        self.wrong(ROW, (0, 1, None, None, None), (), (0,), TieBroken(0))

    def test_ways_of_unlike_heights(self):
        uneven = Coming((1,), (end(0), ((1, 2, 3), Coming((2, 3), (end(1), end(2), end(3))))))
        self.right(ROW, ENDS, (1, 2), (0, 1, 2, 3), uneven)
        self.wrong(ROW, ENDS, (1, 1), (0, 1, 2, 3), uneven)
        self.wrong(ROW, ENDS, (1,), (0, 1, 2, 3), uneven)

    def test_a_batch_in_which_nothing_comes(self):
        later = Coming((), (((0, 1, 2, 3), halved()),))
        self.right(ROW, ENDS, (1, 1, 1), (0, 1, 2, 3), later)
        self.wrong(ROW, ENDS, (1, 1), (0, 1, 2, 3), later)

    def test_things_that_no_part_needs(self):
        tree = Coming((1, 2, 3), (((0, 1), Coming((), (end(0), end(1)))), end(2), end(3)))
        self.right(ROW, ENDS, (3, 1), (0, 1, 2, 3), tree)
        table = Table(("a", "b", "c"), ((0, 1, 1),))
        self.right(table, (0, 0, None), (1,), (0,), Coming((2,), (end(0),)))

    def test_high_trees(self):
        walk, tree = (0,), TieBroken(0)
        for _ in range(60):
            tree = Coming((), ((walk, tree),))
        self.right(ROW, (0, 0, None, None, None), (1,) * 60, walk, tree)
        self.wrong(ROW, (0, 0, None, None, None), (1,) * 59, walk, tree)


class WrongTreeTest(AttackCase):
    def wrong_row(self, tree, batches=(1, 1), walk=(0, 1, 2, 3)):
        self.wrong(ROW, ENDS, batches, walk, tree)

    def halves(self, first=None, second=None, things=(2,)):
        parts = halved().parts
        return Coming(things, (first or parts[0], second or parts[1]))

    def test_the_halves_are_right(self):
        self.right(ROW, ENDS, (1, 1), (0, 1, 2, 3), self.halves())

    def test_another_tie(self):
        for tie in (1, 2, 3, -1, 4, True, False, None, 0.0, "0", (0,), [0], Sour(), Yes(), 10 ** 400):
            part = ((0, 1), Coming((1,), (((0,), TieBroken(tie)), end(1))))
            self.wrong_row(self.halves(first=part))
            self.wrong(ROW, (0, 0, None, None, None), (), (0,), TieBroken(tie))
        self.wrong(ROW, (0, None, 0, None, None), (), (0, 1), TieBroken(0))
        self.wrong(ROW, (0, None, 0, None, None), (1,), (0, 1), TieBroken((0, 1)))
        self.wrong(ROW, (None, 0, 0, None, None), (), (1,), TieBroken(True))

    def test_an_empty_walk_for_a_part(self):
        parts = halved().parts
        for at in range(3):
            for tree in (TieBroken(0), halved(), Coming((), ()), parts[0][1]):
                self.wrong_row(Coming((2,), parts[:at] + (((), tree),) + parts[at:]))

    def test_parts_that_are_not_the_walk(self):
        one, other = halved().parts
        for parts in ((), (one,), (other,), (other, one), (one, one), (one, other, other), (one, other, one)):
            self.wrong_row(Coming((2,), parts))
        self.wrong_row(Coming((1, 2, 3), (end(0), end(1), end(3))), (3,))
        self.wrong_row(Coming((1, 2, 3), (end(0), end(1), end(2))), (3,))
        self.wrong_row(Coming((1, 2, 3), (end(1), end(2), end(3))), (3,))
        self.wrong_row(Coming((1, 2, 3), (end(0), end(2), end(1), end(3))), (3,))
        twice = Table(("a", "b"), ((0, 1, 1), (0, 1, 1)))
        self.wrong(twice, (0, None), (1,), (0,), Coming((1,), (end(1),)))
        self.wrong(twice, (0, 0), (1,), (0,), Coming((), (end(1),)))
        self.right(twice, (0, 0), (1,), (0,), Coming((), (end(0),)))

    def test_a_part_whose_end_has_not_come(self):
        one, other = halved().parts
        self.wrong_row(Coming((1,), (one, other)))
        self.wrong_row(Coming((), (one, other)))
        third = Coming((1, 3), (end(0), ((1, 2), Coming((2,), (end(1), end(2)))), end(3)))
        self.wrong_row(third)
        self.right(ROW, ENDS, (2, 1), (0, 1, 2, 3), third)
        self.wrong_row(Coming((1,), (end(0), ((1, 2), Coming((2,), (end(1), end(2)))), end(3))), (2, 1))
        self.wrong_row(Coming((3,), (end(0), ((1, 2), Coming((2,), (end(1), end(2)))), end(3))), (2, 1))

    def test_only_the_way_to_a_part_has_come_there(self):
        first = Coming((1, 3), (end(0), end(1)))
        self.right(ROW, ENDS, (1, 2), (0, 1, 2, 3), self.halves(first=((0, 1), first)))
        second = ((2, 3), Coming((), (end(2), end(3))))
        self.wrong_row(self.halves(first=((0, 1), first), second=second), (1, 2))

    def test_things_that_are_here_already(self):
        for things in ((0, 2), (2, 4)):
            self.wrong_row(Coming(things, halved().parts), (2, 1))
        for things in ((1, 2), (0, 1), (1, 4)):
            part = ((0, 1), Coming(things, (end(0), end(1))))
            self.wrong_row(self.halves(first=part), (1, 2))
        self.right(ROW, ENDS, (2, 1), (0, 1, 2, 3), Coming((1, 2), (end(0), end(1), ((2, 3), halved().parts[1][1]))))

    def test_too_many_things(self):
        self.wrong_row(Coming((1, 2), (end(0), end(1), halved().parts[1])))
        part = ((0, 1), Coming((1, 3), (end(0), end(1))))
        self.wrong_row(self.halves(first=part))
        self.wrong_row(Coming((1, 2, 3), (end(0), end(1), end(2), end(3))), (2,))

    def test_no_batches_left(self):
        for batches in ((), (1,), (4,)):
            self.wrong_row(halved(), batches)
        self.wrong(ROW, (0, 0, None, None, None), (), (0,), Coming((), (end(0),)))
        self.right(ROW, (0, 0, None, None, None), (1,), (0,), Coming((), (end(0),)))

    def test_a_coming_without_parts(self):
        self.wrong_row(Coming((2,), ()))
        self.wrong_row(self.halves(first=((0, 1), Coming((1,), ()))))

    def test_things_that_are_no_lot(self):
        for things in odd_values() + [[2], (2, 2), (3, 2), (2, 1), (5,), (-1,), (True,), (2.0,), 2, "2", (2, None)]:
            self.wrong_row(Coming(things, halved().parts), (5, 5))

    def test_parts_that_are_no_pairs(self):
        one, other = halved().parts
        for parts in (list(halved().parts), (one,), (one, other[1]), (one, other + (0,)), (one, other[:1]),
                      (one, list(other)), ([0, 1], other), (((0, 1), one[1], 0), other), (one, ([2, 3], other[1])),
                      (((0, True), one[1]), other), (((False, 1), one[1]), other)):
            self.wrong_row(Coming((2,), parts))
        for value in odd_values():
            self.wrong_row(Coming((2,), value))
            self.wrong_row(Coming((2,), (value, other)))
            self.wrong_row(Coming((2,), (one, other, value)))
            self.wrong_row(self.halves(first=(value, one[1])))
            self.wrong_row(self.halves(first=((0, 1), value)))
            self.wrong_row(self.halves(second=((2, 3), value)))

    def test_other_objects_as_trees(self):
        for value in odd_values() + [Attack((0, 1), halved()), TieBroken, Coming, ROW, Attack]:
            self.wrong(ROW, (0, 0, None, None, None), (1,), (0,), value)

    def test_parts_that_are_far_too_many(self):
        self.wrong_row(Coming((2,), halved().parts * 5000))
        self.wrong_row(Coming((2,), (((0,) * 10 ** 5, TieBroken(0)),)))

    def test_a_tree_that_holds_itself(self):
        tree = Coming((), None)
        tree.parts = (((0, 1, 2, 3), tree),)
        self.wrong(ROW, ENDS, (1,) * 60, (0, 1, 2, 3), tree)


class WalkTest(AttackCase):
    def test_between_two_that_have_come(self):
        for last in range(-2, 7):
            times = (0, None, None, None, last)
            self.assertIs(is_attack(ROW, times, (1, 1), Attack((0, 1, 2, 3), halved())), last < 4)
        self.right(ROW, (7, None, None, None, 10), (1, 1), (0, 1, 2, 3), halved())
        self.wrong(ROW, (6, None, None, None, 10), (1, 1), (0, 1, 2, 3), halved())

    def test_one_that_has_not_come(self):
        tree = Coming((0, 1, 2, 3), (end(0), end(1), end(2), end(3)))
        self.wrong(ROW, (None, None, None, None, 3), (5,), (0, 1, 2, 3), tree)
        self.wrong(ROW, (None, None, None, None, -99), (5,), (0, 1, 2, 3), tree)
        tree = Coming((1, 2, 3, 4), (end(0), end(1), end(2), end(3)))
        self.wrong(ROW, (3, None, None, None, None), (5,), (0, 1, 2, 3), tree)
        tree = Coming((0, 1), (end(0),))
        self.wrong(ROW, (None,) * 5, (5,), (0,), tree)
        self.wrong(ROW, (None,) * 5, (5,), (0,), TieBroken(0))

    def test_closed_walks(self):
        self.right(RING, NONE, (3,), (0, 1, 2), ring_tree())
        self.wrong(RING, NONE, (2,), (0, 1, 2), ring_tree())
        two = Coming((0, 1), (end(0), ((1, 2), Coming((2,), (end(1), end(2))))))
        self.right(RING, NONE, (2, 1), (0, 1, 2), two)
        self.wrong(RING, NONE, (1, 2), (0, 1, 2), two)
        one = Coming((0,), (((0, 1, 2), Coming((1, 2), (end(0), end(1), end(2)))),))
        self.right(RING, NONE, (1, 2), (0, 1, 2), one)

    def test_closed_walks_that_do_not_weigh_enough(self):
        for weight in (-2, -1, 0, 1):
            table = Table(("a", "b", "c"), ((0, 1, 0), (1, 2, weight), (2, 0, 0)))
            attack = Attack((0, 1, 2), ring_tree())
            self.assertIs(is_attack(table, NONE, (3,), attack), weight > 0)

    def test_a_closed_walk_whose_first_thing_has_come(self):
        tree = Coming((1, 2), (end(0), end(1), end(2)))
        self.right(RING, (5, None, None), (2,), (0, 1, 2), tree)
        self.wrong(RING, (5, None, None), (3,), (0, 1, 2), ring_tree())
        still = Table(("a", "b", "c"), ((0, 1, 0), (1, 2, 0), (2, 0, 0)))
        self.wrong(still, (5, None, None), (2,), (0, 1, 2), tree)
        self.right(RING, (5, 5, 5), (), (0,), TieBroken(0))
        self.right(RING, (5, 6, 6), (1,), (0, 1, 2), Coming((), (end(0), end(1), end(2))))
        self.wrong(RING, (5, 6, 6), (), (0, 1, 2), Coming((), (end(0), end(1), end(2))))

    def test_the_first_thing_must_come_first(self):
        tree = Coming((1,), (end(0), ((1, 2), Coming((2,), (end(1), end(2))))))
        self.wrong(RING, NONE, (1, 1), (0, 1, 2), tree)
        tree = Coming((), (((0, 1, 2), ring_tree()),))
        self.wrong(RING, NONE, (3, 3), (0, 1, 2), tree)
        self.wrong(RING, NONE, (3,), (0, 1, 2), TieBroken(0))

    def test_no_walk_with_a_tie(self):
        for walk in odd_values() + [[0, 1, 2, 3], (0, 2), (0, 1, 2, 4), (0, 1, 3), (True,), (0, True, 2, 3), ((0, 1),)]:
            self.wrong(ROW, ENDS, (1, 1), walk, halved())
            self.wrong(ROW, (0, 0, 0, 0, 0), (1, 1), walk, TieBroken(0))
            self.wrong(ROW, (0, 0, 0, 0, 0), (1, 1), walk, Coming((), ()))

    def test_how_long(self):
        table = Table(("a", "b"), ((0, 1, 1), (1, 0, 0)))
        for many, right in ((498, True), (500, True), (502, False)):
            walk = (0, 1) * (many // 2)
            tree = Coming((1,), tuple(end(tie) for tie in walk))
            self.assertIs(is_attack(table, (0, None), (1,), Attack(walk, tree)), right)
            tree = Coming((0, 1), tuple(end(tie) for tie in walk))
            self.assertIs(is_attack(table, (None, None), (2,), Attack(walk, tree)), right)

    def test_other_values(self):
        for value in odd_values() + [halved(), TieBroken(0), ROW, Attack, ((0, 1, 2, 3), halved())]:
            self.assertIs(is_attack(ROW, ENDS, (1, 1), value), False)
            self.assertIs(is_attack(ROW, ENDS, (), value), False)


class ErrorsTest(unittest.TestCase):
    def invalid_times(self, at, times, batches=(1,)):
        with self.assertRaises(InvalidTimes) as caught:
            is_attack(ROW, times, batches, Attack((0, 1, 2, 3), halved()))
        self.assertEqual(caught.exception.at, at)

    def test_times(self):
        for times in odd_values() + [list(ENDS), ENDS[:4], ENDS + (0,)]:
            self.invalid_times(-1, times)
        for wrong in (True, 0.0, "0", 10 ** 9 + 1, -10 ** 9 - 1, (), [0], Sour(), Yes()):
            self.invalid_times(3, ENDS[:3] + (wrong,) + ENDS[4:])
        self.assertIs(is_attack(ROW, (0, None, None, None, 10 ** 9), (1,), None), False)

    def test_batches(self):
        for batches in odd_values() + [[1], (0,), (101,), (True,), (1,) * 61, 1, (1, 0), (1.0,), (Sour(),), (Yes(),)]:
            with self.assertRaises(InvalidNumber) as caught:
                is_attack(ROW, ENDS, batches, Attack((0, 1, 2, 3), halved()))
            self.assertEqual(caught.exception.word, "batches")

    def test_times_are_first(self):
        self.invalid_times(-1, None, None)
        self.invalid_times(0, ("0",) + ENDS[1:], (0,))
        for value in (None, Sour(), deep_tuple()):
            with self.assertRaises(InvalidNumber):
                is_attack(ROW, ENDS, None, value)
            with self.assertRaises(InvalidTimes):
                is_attack(ROW, None, (), value)


def comings(things, many):
    return [lot for size in range(min(many, len(things)) + 1) for lot in itertools.combinations(things, size)]


def splits(walk):
    """All ways to cut a walk into parts with ties."""
    for size in range(len(walk)):
        for places in itertools.combinations(range(1, len(walk)), size):
            marks = (0,) + places + (len(walk),)
            yield tuple(walk[marks[at]:marks[at + 1]] for at in range(size + 1))


class SoundTest(unittest.TestCase):
    """Whoever has a right attack breaks a tie, whatever the clerk says."""

    def trees(self, table, walk, here, batches):
        """All trees that are right but for what is_attack may see wrong: the smallest for each first lot."""
        if len(walk) == 1:
            yield TieBroken(walk[0])
        if batches:
            for lot in comings([thing for thing in range(len(table.things)) if thing not in here], batches[0]):
                for parts in splits(walk):
                    yield from self.with_parts(table, here + lot, lot, parts, batches[1:])

    def with_parts(self, table, here, lot, parts, batches):
        ends = [end for part in parts for end in (table.ties[part[0]][0], table.ties[part[-1]][1])]
        if all(end in here for end in ends):
            trees = [next(self.trees(table, part, here, batches), None) for part in parts]
            if None not in trees:
                yield Coming(lot, tuple(zip(parts, trees)))

    def beats(self, table, times, tree):
        """Whether a tree breaks a tie whatever times between -4 and 4 are said for what comes."""
        if isinstance(tree, TieBroken):
            return not keeps(table, times)
        for told in itertools.product(range(-4, 5), repeat=len(tree.things)):
            behind = list(times)
            for thing, time in zip(tree.things, told):
                behind[thing] = time
            if not any(self.goes_on(table, behind, walk, other) for walk, other in tree.parts):
                return False
        return True

    def goes_on(self, table, times, walk, tree):
        first, last = table.ties[walk[0]][0], table.ties[walk[-1]][1]
        return weight_of(table, walk) > times[last] - times[first] and self.beats(table, times, tree)

    def test_right_attacks_beat_all_clerks(self):
        found = 0
        for number, table in enumerate(small_tables(60, 3, 5, -1, 2, seed=42)):
            times = ((None, None, None), (0, None, None), (0, None, 1))[number % 3][:len(table.things)]
            here = tuple(thing for thing, time in enumerate(times) if time is not None)
            for batches in ((), (1,), (1, 1), (2,)):
                for thing in range(len(table.things)):
                    for walk, _ in walks_from(table, thing, 3):
                        tree = next(self.trees(table, walk, here, batches), None) if walk else None
                        if is_attack(table, times, batches, Attack(walk, tree)):
                            found += 1
                            self.assertTrue(self.beats(table, list(times), tree))
        self.assertGreater(found, 20)


if __name__ == "__main__":
    unittest.main()
