"""Point 70: colours, with the way of point 67."""

import itertools
import random
import unittest

from saidatonce.colours import colour_game, colour_gap, pairs_agree
from saidatonce.errors import Refused
from saidatonce.tables import Table

NAMES = tuple("abcdefghijkl")
PATH = Table(("a", "b", "c"), ((0, 1, 5), (1, 2, -5)))


def complete(count):
    """The table in which each two of so many things have a tie."""
    return Table(NAMES[:count], tuple((one, other, 0) for one in range(count) for other in range(one)))


def random_graph(chance, count, many):
    """A table with so many ties between any two things, in any direction, perhaps twice."""
    ties = ()
    if count > 1:
        ties = tuple((*chance.sample(range(count), 2), chance.randint(-9, 9)) for _ in range(many))
    return Table(NAMES[:count], ties)


def breaks(table, said):
    return any(said[x] is not None and said[x] == said[y] for x, y, _ in table.ties)


def slow_game(table, count, said, many):
    """The whole game, by its words."""
    if breaks(table, said):
        return False
    if many == 0:
        return True
    return all(
        any(slow_game(table, count, said[:at] + (colour,) + said[at + 1:], many - 1) for colour in range(count))
        for at, own in enumerate(said) if own is None
    )


def slow_pairs(table, count, many):
    """The pairs of colours by the words of point 67, for each two things, also for one and itself."""
    things = range(len(table.things))
    tied = {tie[:2] for tie in table.ties} | {tie[1::-1] for tie in table.ties}
    pairs = {}
    for one, other in itertools.product(things, things):
        pairs[one, other] = {
            (left, right) for left in range(count) for right in range(count)
            if (left == right if one == other else (one, other) not in tied or left != right)
        }
    for _ in range(many):
        left = {}
        for (one, other), own in pairs.items():
            left[one, other] = {
                pair for pair in own
                if all(
                    any((pair[0], colour) in pairs[one, third] and (pair[1], colour) in pairs[other, third]
                        for colour in range(count))
                    for third in things if third not in (one, other)
                )
            }
        pairs = left
    return pairs


def slow_agree(table, count, said, many):
    """Whether pairs agree, by the words of point 67."""
    here = [thing for thing, colour in enumerate(said) if colour is not None]
    if here:
        pairs = slow_pairs(table, count, many)
        return all((said[one], said[other]) in pairs[one, other] for one in here for other in here)
    if many == 0:
        return True
    pairs = slow_pairs(table, count, many - 1)
    return all(pairs[thing, thing] for thing in range(len(table.things)))


def all_said(table, count):
    return itertools.product((None,) + tuple(range(count)), repeat=len(table.things))


def small_games(seed, many, most_things):
    """Some tables, and some colours said for each, with one to five colours."""
    chance = random.Random(seed)
    for number in range(many):
        things = chance.randint(1, most_things)
        count = number % 5 + 1
        table = random_graph(chance, things, chance.randint(0, 2 * things))
        said = tuple(chance.choice((None, None, chance.randrange(count))) for _ in range(things))
        yield table, count, said


class GameTest(unittest.TestCase):
    def test_a_path(self):
        self.assertIs(colour_game(PATH, 2, (0, None, 0), 1), True)
        self.assertIs(colour_game(PATH, 2, (0, None, 1), 1), False)
        self.assertIs(colour_game(PATH, 2, (0, None, 1), 0), True)
        self.assertIs(colour_game(PATH, 2, (0, 0, None), 0), False)
        self.assertIs(colour_game(PATH, 2, (None,) * 3, 1), True)
        self.assertIs(colour_game(PATH, 2, (None,) * 3, 2), True)
        self.assertIs(colour_game(PATH, 2, (None,) * 3, 3), True)
        self.assertIs(colour_game(complete(3), 2, (None,) * 3, 2), True)
        self.assertIs(colour_game(complete(3), 2, (None,) * 3, 3), False)
        self.assertIs(colour_game(table=complete(3), count=3, said=(None,) * 3, many=3), True)

    def test_one_colour(self):
        self.assertIs(colour_game(PATH, 1, (None,) * 3, 1), True)
        self.assertIs(colour_game(PATH, 1, (None,) * 3, 2), False)
        self.assertIs(colour_game(Table(("a", "b"), ()), 1, (0, None), 2), True)

    def test_against_the_whole_game(self):
        for table, count, said in small_games(70, 150, 4):
            for many in range(5):
                self.assertIs(colour_game(table, count, said, many), slow_game(table, count, said, min(many, 4)))
        for table, count, said in small_games(71, 10, 5):
            self.assertIs(colour_game(table, min(count, 3), said, 3), slow_game(table, min(count, 3), said, 3))

    def test_all_said_on_small_tables(self):
        for table in (PATH, complete(3), Table(("a", "b", "c"), ((2, 0, 0),))):
            for count in (1, 2, 3):
                for said in all_said(table, count):
                    for many in range(4):
                        self.assertIs(colour_game(table, count, said, many), slow_game(table, count, said, many))

    def test_more_than_are_missing(self):
        for many in (2, 3, 60, 10 ** 30):
            self.assertIs(colour_game(PATH, 2, (None, 0, None), many), True)
            self.assertIs(colour_game(PATH, 1, (0, None, None), many), False)
            self.assertIs(colour_game(PATH, 2, (0, 1, 0), many), True)
            self.assertIs(colour_game(PATH, 2, (0, 0, 1), many), False)


class SizeTest(unittest.TestCase):
    def ways(self, missing, count, many):
        told = 1
        for at in range(min(missing, many)):
            told *= (missing - at) * count
        return told

    def test_the_bound(self):
        told = set()
        for count in range(1, 6):
            for missing in range(13):
                table = Table(NAMES, ())
                said = (None,) * missing + (0,) * (12 - missing)
                for many in range(14):
                    ways = self.ways(missing, count, many)
                    told.add(ways)
                    if ways > 50000:
                        with self.assertRaises(Refused) as caught:
                            colour_game(table, count, said, many)
                        self.assertEqual(caught.exception.word, "size")
                    elif missing < 12 or ways < 20000:
                        self.assertIs(colour_game(table, count, said, many), True)
        self.assertEqual(max(ways for ways in told if ways <= 50000), 48384)
        self.assertEqual(min(ways for ways in told if ways > 50000), 55440)

    def test_also_if_a_tie_is_broken(self):
        table = Table(NAMES, ((0, 1, 0),))
        with self.assertRaises(Refused):
            colour_game(table, 5, (0, 0) + (None,) * 10, 10)
        self.assertIs(colour_game(table, 5, (0, 0) + (None,) * 10, 2), False)

    def test_pairs_have_no_bound(self):
        chance = random.Random(72)
        for count in range(1, 6):
            table = random_graph(chance, 12, 20)
            for many in (12, 60, 10 ** 30, 10 ** 400):
                self.assertIn(pairs_agree(table, count, (None,) * 12, many), (True, False))


class PairsTest(unittest.TestCase):
    def test_a_path(self):
        self.assertIs(pairs_agree(PATH, 2, (0, None, 0), 1), True)
        self.assertIs(pairs_agree(PATH, 2, (0, None, 1), 1), False)
        self.assertIs(pairs_agree(PATH, 2, (0, None, 1), 0), True)
        self.assertIs(pairs_agree(PATH, 2, (0, 0, None), 0), False)
        self.assertIs(pairs_agree(table=PATH, count=3, said=(0, None, 1), many=1), True)

    def test_nothing_said(self):
        self.assertIs(pairs_agree(PATH, 1, (None,) * 3, 0), True)
        self.assertIs(pairs_agree(PATH, 1, (None,) * 3, 1), True)
        self.assertIs(pairs_agree(PATH, 1, (None,) * 3, 2), False)
        self.assertIs(pairs_agree(PATH, 2, (None,) * 3, 2), True)
        self.assertIs(pairs_agree(PATH, 2, (None,) * 3, 3), True)
        self.assertIs(pairs_agree(complete(4), 3, (None,) * 4, 3), True)
        self.assertIs(pairs_agree(complete(4), 3, (None,) * 4, 4), True)
        self.assertIs(pairs_agree(complete(3), 2, (None,) * 3, 2), True)
        self.assertIs(pairs_agree(complete(3), 2, (None,) * 3, 3), False)

    def test_one_thing_said(self):
        self.assertIs(pairs_agree(PATH, 1, (0, None, None), 1), False)
        self.assertIs(pairs_agree(PATH, 1, (0, None, None), 0), True)
        self.assertIs(pairs_agree(complete(3), 2, (None, 1, None), 1), True)
        self.assertIs(pairs_agree(complete(3), 2, (None, 1, None), 2), False)

    def test_against_the_words(self):
        for table, count, said in small_games(73, 250, 5):
            for many in range(7):
                self.assertIs(pairs_agree(table, count, said, many), slow_agree(table, count, said, many))
            nothing = (None,) * len(said)
            for many in range(4):
                self.assertIs(pairs_agree(table, count, nothing, many), slow_agree(table, count, nothing, many))

    def test_great_tables_against_the_words(self):
        chance = random.Random(74)
        for count in range(1, 6):
            table = random_graph(chance, 9, 14)
            said = tuple(chance.choice((None, chance.randrange(count))) for _ in range(9))
            for many in (1, 2, 9):
                self.assertIs(pairs_agree(table, count, said, many), slow_agree(table, count, said, many))

    def test_if_pairs_do_not_agree_no_clerk_can(self):
        gaps = 0
        for table, count, said in small_games(75, 200, 4):
            for many in range(5):
                agree = pairs_agree(table, count, said, many)
                can = colour_game(table, count, said, many)
                self.assertTrue(agree or not can)
                gaps += agree and not can
        self.assertGreater(gaps, 0)

    def test_with_two_colours_exactly_then(self):
        chance = random.Random(76)
        for number in range(200):
            table = random_graph(chance, number % 5 + 1, chance.randint(0, 6))
            said = tuple(chance.choice((None, None, 0, 1)) for _ in table.things)
            for many in range(6):
                self.assertIs(pairs_agree(table, 2, said, many), colour_game(table, 2, said, many))


class GapTest(unittest.TestCase):
    def test_too_few_colours(self):
        self.assertIsNone(colour_gap(1))
        self.assertIsNone(colour_gap(count=2))

    def test_three_colours_and_more(self):
        for count in (3, 4, 5):
            table, said = colour_gap(count)
            self.assertIsInstance(table, Table)
            self.assertIsInstance(said, tuple)
            self.assertEqual(len(said), len(table.things))
            self.assertTrue(all(colour is None or colour in range(count) for colour in said))
            self.assertFalse(breaks(table, said))
            self.assertIs(pairs_agree(table, count, said, 1), True)
            self.assertIs(slow_agree(table, count, said, 1), True)
            self.assertIs(colour_game(table, count, said, 1), False)
            self.assertIs(slow_game(table, count, said, 1), False)


if __name__ == "__main__":
    unittest.main()
