"""Point 69, all but papers: places on a tree of roads."""

import itertools
import random
import unittest

from saidatonce.errors import InvalidNumber, Refused
from saidatonce.places import are_roads, are_spots, batch_spots, is_placed, least_sums, place_distances, spots_for
from saidatonce.tables import Table
from tests.odd import Sour, Yes, odd_values, small_tables

LINE = ((0, 1), (1, 2), (2, 3))
STAR = ((3, 0), (1, 3), (3, 2))
BELOW = Table(("a", "b", "c"), ((0, 1, 5), (1, 2, -1)))


def slow_distances(roads):
    count = len(roads) + 1
    rows = [[0 if one == other else count for other in range(count)] for one in range(count)]
    for one, other in roads:
        rows[one][other] = rows[other][one] = 1
    for middle in range(count):
        for one in range(count):
            for other in range(count):
                rows[one][other] = min(rows[one][other], rows[one][middle] + rows[middle][other])
    return tuple(tuple(row) for row in rows)


def slow_sums(table, most):
    count = len(table.things)
    rows = [[0 if one == other else None for other in range(count)] for one in range(count)]
    for _ in range(most):
        behind = [list(row) for row in rows]
        for row, new in zip(rows, behind):
            for x, y, weight in table.ties:
                for one, other in ((x, y), (y, x)):
                    if row[one] is not None and (new[other] is None or row[one] + weight < new[other]):
                        new[other] = row[one] + weight
        rows = behind
    return tuple(tuple(row) for row in rows)


class Game:
    """The whole game, by trying everything."""

    def __init__(self, table, roads):
        self.table = table
        self.away = slow_distances(roads)
        self.known = {}

    def keeps(self, spots):
        return all(
            spots[x] is None or spots[y] is None or self.away[spots[x]][spots[y]] <= weight
            for x, y, weight in self.table.ties
        )

    def with_spots(self, spots, lot, places):
        said = list(spots)
        for thing, place in zip(lot, places):
            said[thing] = place
        return tuple(said)

    def can_answer(self, spots, lot, batches):
        return any(
            self.can(self.with_spots(spots, lot, places), batches)
            for places in itertools.product(range(len(self.away)), repeat=len(lot))
        )

    def can(self, spots, batches):
        if not self.keeps(spots):
            return False
        if not batches:
            return True
        if (spots, batches) not in self.known:
            left = [thing for thing, spot in enumerate(spots) if spot is None]
            self.known[spots, batches] = all(
                self.can_answer(spots, lot, batches[1:])
                for size in range(batches[0] + 1)
                for lot in itertools.combinations(left, size)
            )
        return self.known[spots, batches]


def games():
    """Small tables and roads to play on, and batches."""
    roads = ((), ((1, 0),), ((0, 1), (2, 1)), LINE, STAR)
    for number, table in enumerate(small_tables(24, 4, 5, 0, 2, seed=69)):
        yield table, roads[number % 5], ((), (1,), (2,), (1, 1), (2, 1), (1, 2))


def all_spots(table, roads):
    return itertools.product((None,) + tuple(range(len(roads) + 1)), repeat=len(table.things))


def random_roads(chance, many):
    places = list(range(many + 1))
    chance.shuffle(places)
    roads = []
    for at in range(1, many + 1):
        road = [places[at], places[chance.randrange(at)]]
        chance.shuffle(road)
        roads.append(tuple(road))
    chance.shuffle(roads)
    return tuple(roads)


class PlacesCase(unittest.TestCase):
    def refuses(self, word, call, *given):
        with self.assertRaises(Refused) as caught:
            call(*given)
        self.assertEqual(caught.exception.word, word)


class RoadsTest(PlacesCase):
    def test_roads(self):
        for roads in ((), ((0, 1),), ((1, 0),), LINE, STAR, ((2, 0), (2, 1)), ((0, 4), (4, 2), (1, 2), (2, 3))):
            self.assertIs(are_roads(roads), True)
        self.assertIs(are_roads(value=((0, 1),)), True)

    def test_how_many(self):
        line = tuple((at, at + 1) for at in range(40))
        self.assertIs(are_roads(line[:38]), True)
        self.assertIs(are_roads(line[:39]), True)
        self.assertIs(are_roads(line), False)

    def test_no_tree(self):
        for roads in (((0, 1), (1, 0)), ((0, 1), (0, 1)), ((0, 1), (1, 2), (2, 0)), ((0, 1), (2, 3), (0, 1)),
                      ((1, 2), (2, 3), (3, 1)), ((0, 1), (1, 2), (2, 0), (3, 4)), ((1, 2), (1, 2))):
            self.assertIs(are_roads(roads), False)

    def test_no_pairs_of_unlike_places(self):
        for road in ((0, 0), (1, 1), (0, 2), (2, 0), (-1, 0), (0, -1), (0,), (0, 1, 2), [0, 1], (False, 1), (0, True),
                     (0.0, 1), (0, 1.0), ("0", 1), (0, None), (0, Sour()), (Yes(), 1), (0, 10 ** 400), "01", 0):
            self.assertIs(are_roads((road,)), False)
            self.assertIs(are_roads(((0, 3), (0, 2), road)), False)
        for road in ((1, 4), (4, 1), (1, 1), (-1, 1)):
            self.assertIs(are_roads(((0, 3), (0, 2), road)), False)
        self.assertIs(are_roads(((0, 3), (0, 2), (1, 3))), True)

    def test_any_value(self):
        for value in odd_values() + [[], [(0, 1)], 0, -1]:
            self.assertIs(are_roads(value), False)
            self.assertIs(are_roads((value,)), False)
            self.assertIs(are_roads(((0, 1), value)), False)
            self.assertIs(are_roads(((0, value),)), False)

    def test_small_ones_by_all_pairs(self):
        for many in (1, 2, 3):
            pairs = [(one, other) for one in range(many + 1) for other in range(many + 1)]
            for roads in itertools.product(pairs, repeat=many):
                far = max(max(row) for row in slow_distances(roads))
                whole = far <= many and all(one != other for one, other in roads)
                self.assertIs(are_roads(roads), whole)


class DistancesTest(PlacesCase):
    def test_distances(self):
        self.assertEqual(place_distances(()), ((0,),))
        self.assertEqual(place_distances(LINE), ((0, 1, 2, 3), (1, 0, 1, 2), (2, 1, 0, 1), (3, 2, 1, 0)))
        self.assertEqual(place_distances(roads=STAR), ((0, 2, 2, 1), (2, 0, 2, 1), (2, 2, 0, 1), (1, 1, 1, 0)))

    def test_any_trees(self):
        chance = random.Random(70)
        for many in (1, 2, 5, 12, 39):
            for _ in range(4):
                roads = random_roads(chance, many)
                self.assertIs(are_roads(roads), True)
                self.assertEqual(place_distances(roads), slow_distances(roads))


class SpotsTest(PlacesCase):
    def test_spots(self):
        table = Table(("a", "b", "c"), ())
        for value in ((None, None, None), (0, 3, 0), (3, 3, 3), (None, 0, None)):
            self.assertIs(are_spots(table, LINE, value), True)
        for value in ((), (0, 0), (0, 0, 0, 0), [0, 0, 0], (0, 4, 0), (0, 0, -1), (True, 0, 0), (0, False, 0),
                      (0, 0, 1.0), (0, "0", 0), (Sour(), 0, 0), (0, Yes(), 0), (0, 0, 10 ** 400), (None, None, (0,))):
            self.assertIs(are_spots(table, LINE, value), False)
        for value in odd_values():
            self.assertIs(are_spots(table, LINE, value), False)
            self.assertIs(are_spots(table, LINE, (0, value, 0)), value is None)

    def test_the_only_place(self):
        table = Table(("a",), ())
        self.assertIs(are_spots(table=table, roads=(), value=(0,)), True)
        self.assertIs(are_spots(table, (), (1,)), False)
        self.assertIs(are_spots(table, (), (None,)), True)

    def test_a_weight_below_0_does_not_matter(self):
        self.assertIs(are_spots(BELOW, LINE, (0, 1, 2)), True)


class SumsTest(PlacesCase):
    def test_forwards_and_backwards(self):
        table = Table(("a", "b", "c", "d"), ((1, 0, 4), (1, 2, 3), (0, 2, 9), (2, 0, 8)))
        self.assertEqual(least_sums(table, 0), (
            (0, None, None, None), (None, 0, None, None), (None, None, 0, None), (None, None, None, 0),
        ))
        self.assertEqual(least_sums(table, 1), ((0, 4, 8, None), (4, 0, 3, None), (8, 3, 0, None), (None,) * 3 + (0,)))
        self.assertEqual(least_sums(table=table, most=2)[0], (0, 4, 7, None))
        self.assertEqual(least_sums(table, 2)[2], (7, 3, 0, None))

    def test_by_a_slow_way(self):
        for table in small_tables(60, 6, 8, 0, 5, seed=71):
            for most in range(8):
                self.assertEqual(least_sums(table, most), slow_sums(table, most))
        for table in small_tables(5, 12, 60, 0, 99, seed=72):
            for most in (1, 2, 3, 11, 12, 30):
                self.assertEqual(least_sums(table, most), slow_sums(table, most))

    def test_a_long_row(self):
        names = tuple("abcdefghijkl")
        table = Table(names, tuple((at + at % 2, at + 1 - at % 2, 1) for at in range(11)))
        for most in range(14):
            sums = least_sums(table, most)
            for one in range(12):
                for other in range(12):
                    apart = abs(one - other)
                    self.assertEqual(sums[one][other], apart if apart <= most else None)

    def test_great_numbers(self):
        table = Table(("a", "b", "c"), ((0, 1, 0), (2, 1, 10 ** 6)))
        for most in (2, 3, 10 ** 130, 10 ** 131, 10 ** 400):
            self.assertEqual(least_sums(table, most), ((0, 0, 10 ** 6), (0, 0, 10 ** 6), (10 ** 6, 10 ** 6, 0)))

    def test_other_numbers(self):
        for most in odd_values() + [-1, -10 ** 400, (1,), "1"]:
            for table in (Table(("a",), ()), Table(("a", "b"), ((0, 1, 1),)), BELOW):
                with self.assertRaises(InvalidNumber) as caught:
                    least_sums(table, most)
                self.assertEqual(caught.exception.word, "most")

    def test_a_weight_below_0(self):
        for most in (0, 1, 5):
            self.refuses("weight", least_sums, BELOW, most)
        self.assertEqual(least_sums(Table(("a", "b"), ((0, 1, 0),)), 1), ((0, 0), (0, 0)))


class PlayedTest(PlacesCase):
    def test_a_row(self):
        table = Table(("a", "b", "c"), ((0, 1, 1), (1, 2, 1)))
        self.assertIs(is_placed(table, LINE, (0, None, 3), ()), True)
        self.assertIs(is_placed(table, LINE, (0, None, 3), (1,)), False)
        self.assertIs(is_placed(table, LINE, (0, None, 2), (1,)), True)
        self.assertIs(is_placed(table, LINE, (0, 2, None), ()), False)
        self.assertIs(is_placed(table=table, roads=LINE, spots=(None,) * 3, batches=(100,) * 60), True)
        self.assertEqual(spots_for(table, LINE, (0, None, 2), (1,), 1), (1,))
        self.assertEqual(spots_for(table, LINE, (1, None, 1), (1,), 1), (0, 1, 2))
        self.assertEqual(spots_for(table=table, roads=LINE, spots=(0, None, 3), batches=(1,), thing=1), ())
        self.assertEqual(batch_spots(table, LINE, (0, None, 2), (1,), (1,)), ((1, 1),))
        self.assertEqual(batch_spots(table=table, roads=LINE, spots=(0, None, 2), batches=(1,), things=()), ())

    def test_what_has_come_must_be_near_enough_for_the_others(self):
        table = Table(("a", "b", "c", "d"), ((0, 1, 1), (1, 2, 1)))
        self.assertEqual(spots_for(table, LINE, (0, None, 3, None), (1, 1), 3), ())
        self.assertEqual(spots_for(table, LINE, (0, None, 2, None), (1, 1), 3), (0, 1, 2, 3))
        self.assertEqual(spots_for(table, LINE, (0, None, 3, None), (1,), 3), (0, 1, 2, 3))

    def test_the_whole_game(self):
        for table, roads, many in games():
            game = Game(table, roads)
            for spots in all_spots(table, roads):
                for batches in many:
                    self.assertIs(is_placed(table, roads, spots, batches), game.can(spots, batches))

    def test_spots_for_against_the_game(self):
        for table, roads, many in games():
            game = Game(table, roads)
            for spots in all_spots(table, roads):
                for batches in many[1:]:
                    for thing in range(len(spots)):
                        if spots[thing] is None:
                            places = tuple(
                                place for place in range(len(roads) + 1)
                                if game.can(game.with_spots(spots, (thing,), (place,)), batches[1:])
                            )
                            self.assertEqual(spots_for(table, roads, spots, batches, thing), places)

    def test_batch_spots_against_the_game(self):
        for table, roads, many in games():
            game = Game(table, roads)
            for spots in all_spots(table, roads):
                left = [thing for thing, spot in enumerate(spots) if spot is None]
                for batches in many[1:]:
                    for size in range(min(batches[0], len(left)) + 1):
                        for lot in itertools.combinations(left, size):
                            self.judge(game, table, roads, spots, batches, lot)

    def judge(self, game, table, roads, spots, batches, lot):
        if not game.can(spots, batches):
            self.refuses("spots", batch_spots, table, roads, spots, batches, lot)
            return
        pairs = batch_spots(table, roads, spots, batches, lot)
        self.assertIsInstance(pairs, tuple)
        self.assertEqual(tuple(thing for thing, _ in pairs), lot)
        self.assertTrue(all(place in range(len(roads) + 1) for _, place in pairs))
        said = game.with_spots(spots, lot, [place for _, place in pairs])
        self.assertTrue(game.can(said, batches[1:]))

    def test_great_games(self):
        chance = random.Random(73)
        names = tuple("abcdefghijkl")
        for number in range(30):
            roads = random_roads(chance, 39)
            pairs = [chance.sample(range(12), 2) for _ in range(18)]
            table = Table(names, tuple((one, other, chance.randint(0, 4)) for one, other in pairs))
            batches = ((3, 1, 4), (12,), (1, 2, 2, 1), (6, 6), (2,) * 5)[number % 5]
            spots = [None] * 12
            while batches:
                self.assertTrue(is_placed(table, roads, tuple(spots), batches))
                left = [thing for thing, spot in enumerate(spots) if spot is None]
                lot = tuple(sorted(chance.sample(left, min(len(left), chance.randint(1, batches[0])))))
                pairs = batch_spots(table, roads, tuple(spots), batches, lot)
                self.assertEqual(tuple(thing for thing, _ in pairs), lot)
                for thing, place in pairs:
                    spots[thing] = place
                batches = batches[1:]
                self.assertIs(is_placed(table, roads, tuple(spots), batches), True)

    def test_only_the_batches_behind_bind_what_comes_now(self):
        line = tuple((at, at + 1) for at in range(12))
        table = Table(("a", "b", "c", "d"), ((0, 1, 1), (1, 2, 1), (2, 3, 1)))
        spots = (0, None, None, 12)
        self.assertIn(batch_spots(table, line, spots, (1,), (1,)), (((1, 0),), ((1, 1),)))
        self.assertEqual(spots_for(table, line, spots, (1,), 1), (0, 1))
        self.assertEqual(spots_for(table, line, spots, (1,), 2), (11, 12))
        self.assertEqual(spots_for(table, line, spots, (1, 1), 2), ())
        self.refuses("spots", batch_spots, table, line, spots, (2,), (1, 2))
        self.assertEqual(batch_spots(table, line, (9, None, None, 12), (2,), (1, 2)), ((1, 10), (2, 11)))

    def test_long_rows_with_far_ends(self):
        chance = random.Random(74)
        names = tuple("abcdefghijkl")
        played = 0
        for number in range(400):
            roads = random_roads(chance, 39)
            table = Table(names, tuple((at, at + 1, chance.randint(0, 4)) for at in range(11)))
            batches = ((1,), (2,), (1, 1), (1, 2), (2, 1), (3,))[number % 6]
            spots = tuple(chance.choice((None, None, chance.randrange(40))) for _ in names)
            left = [thing for thing, spot in enumerate(spots) if spot is None]
            lot = tuple(sorted(chance.sample(left, min(len(left), batches[0]))))
            if is_placed(table, roads, spots, batches):
                played += 1
                said = list(spots)
                for thing, place in batch_spots(table, roads, spots, batches, lot):
                    said[thing] = place
                self.assertIs(is_placed(table, roads, tuple(said), batches[1:]), True)
            else:
                self.refuses("spots", batch_spots, table, roads, spots, batches, lot)
        self.assertGreater(played, 20)

    def test_no_batches(self):
        table = Table(("a", "b"), ((0, 1, 0),))
        for one in (table, Table(("a", "b"), ((0, 1, -1),))):
            self.refuses("batches", spots_for, one, LINE, (None, 2), (), 0)
            self.refuses("batches", batch_spots, one, LINE, (None, 2), (), (0,))
            self.refuses("batches", batch_spots, one, LINE, (0, 2), (), ())

    def test_a_weight_below_0(self):
        self.refuses("weight", is_placed, BELOW, LINE, (0, None, None), ())
        self.refuses("weight", is_placed, BELOW, LINE, (0, None, 3), (1,))
        self.refuses("weight", spots_for, BELOW, LINE, (0, None, None), (1,), 1)
        self.refuses("weight", batch_spots, BELOW, LINE, (0, None, None), (1,), (1,))
        broken = Table(("a", "b", "c"), ((0, 1, 0), (1, 2, -1)))
        self.refuses("weight", batch_spots, broken, LINE, (0, 3, None), (1,), (2,))

    def test_spots_that_are_not_placed(self):
        table = Table(("a", "b", "c"), ((0, 1, 1), (1, 2, 1)))
        self.refuses("spots", batch_spots, table, LINE, (0, None, 3), (1,), (1,))
        self.refuses("spots", batch_spots, table, LINE, (0, None, 3), (1,), ())
        self.refuses("spots", batch_spots, table, LINE, (0, 3, None), (1,), (2,))


if __name__ == "__main__":
    unittest.main()
