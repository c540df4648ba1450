"""Points 17, 18 and 19: games on small tables."""

import itertools
import random
import unittest

from saidatonce.errors import Refused
from saidatonce.games import (
    beating_lots, can_keep, can_keep_among, can_keep_together, first_answers, kept_batches, least_orders, right_batches,
    window_of,
)
from saidatonce.tables import Table, turned, without_ties
from tests.odd import keeps, small_tables
from tests.slow import (
    game_answers, game_keeps, lots_of, missing_things, random_times, ring_of, slow_held, window, with_times,
)

RING = Table(("ale", "bun", "cod", "dab"), ((0, 1, 1), (1, 2, 1), (2, 3, 1), (3, 0, -2)))
NONE = (None,) * 4
PAIR = Table(("a", "b"), ((0, 1, 2), (1, 0, -3)))
FIVE = Table(tuple("abcde"), ())
HEAVY = Table(("a", "b"), ((0, 1, 5),))
BATCHES = [(), (1,), (2,), (3,), (1, 1), (1, 2), (2, 1), (1, 1, 1)]


def slow_kept(table, times, lot):
    """All lots of pairs in the window that break no tie."""
    low, high = window(table, times)
    return tuple(
        tuple(zip(lot, told)) for told in itertools.product(range(low, high + 1), repeat=len(lot))
        if keeps(table, with_times(times, lot, told))
    )


def games(many, seed, things=3, ties=5, least=-2, most=2, apart=3, share=2):
    """Some small tables and times of them."""
    chance = random.Random(seed)
    for table in small_tables(many, things, ties, least, most, seed=seed):
        yield table, random_times(chance, table, apart, share)


class GamesCase(unittest.TestCase):
    def refused(self, call, *rest):
        with self.assertRaises(Refused) as caught:
            call(*rest)
        self.assertEqual(caught.exception.word, "size")


class SizeTest(GamesCase):
    def all_calls(self, table, times):
        """Each call with a table and times."""
        return [
            (window_of, table, times), (kept_batches, table, times, ()), (can_keep_together, table, times, ()),
            (can_keep, table, times, ()), (can_keep_among, table, times, (), ()), (least_orders, table, times, 0),
            (right_batches, table, times, (), ()), (beating_lots, table, times, ()),
        ]

    def test_five_things(self):
        for call in self.all_calls(FIVE, (None,) * 5) + [(first_answers, FIVE, (), ())]:
            self.refused(*call)
        for call, *rest in self.all_calls(RING, NONE) + [(first_answers, RING, (), ())]:
            call(*rest)

    def test_a_weight_above_4(self):
        for call in self.all_calls(HEAVY, (None, None)) + [(first_answers, HEAVY, (), ())]:
            self.refused(*call)
        great = Table(("a", "b"), ((0, 1, 4), (1, 0, -10 ** 6)))
        for call, *rest in self.all_calls(great, (None, None)) + [(first_answers, great, (), ())]:
            call(*rest)

    def test_times_far_apart(self):
        for times in ((0, 21, None, None), (None, 1, 5, -20), (-10 ** 9, 10 ** 9, None, None)):
            for call in self.all_calls(RING, times):
                self.refused(*call)
        for times in ((0, 20, None, None), (None, 1, 5, -15), (10 ** 9, None, None, 10 ** 9 - 20)):
            for call, *rest in self.all_calls(RING, times):
                call(*rest)

    def test_batches_and_orders(self):
        five = (1,) * 5
        for call in (
            (can_keep, RING, NONE, five), (can_keep_among, RING, NONE, (0,), five), (least_orders, RING, NONE, 5),
            (right_batches, RING, NONE, (0,), five), (beating_lots, RING, NONE, five), (first_answers, RING, (), five),
        ):
            self.refused(*call)
        four = (1,) * 4
        self.assertIs(can_keep(RING, NONE, four), False)
        self.assertIs(can_keep_among(RING, NONE, (0,), four), True)
        self.assertEqual(least_orders(RING, NONE, 4), 3)
        self.assertEqual(len(right_batches(RING, NONE, (0,), four)), 0)
        self.assertEqual(beating_lots(RING, NONE, four)[0], ())
        self.assertEqual(first_answers(RING, (), four), ())

    def test_too_many_ways_for_three_things(self):
        # 13 integers in the window for three things are 2,197 ways, 19 are 6,859
        times = (0, None, None, None)
        for weight, fits in ((1, True), (2, True), (3, False), (4, False)):
            table = Table(tuple("abcd"), ((0, 1, weight), (1, 0, -9)))
            if fits:
                told = slow_kept(table, times, (1, 2, 3))
                self.assertEqual(kept_batches(table, times, (1, 2, 3)), told)
                self.assertEqual(right_batches(table, times, (1, 2, 3), (1,)), told)
            else:
                self.refused(kept_batches, table, times, (1, 2, 3))
                self.refused(right_batches, table, times, (1, 2, 3), ())
                self.assertEqual(kept_batches(table, times, (1, 2)), slow_kept(table, times, (1, 2)))

    def test_too_many_ways_for_four_things(self):
        # 7 integers in the window for four things are 2,401 ways, 10 are 10,000
        seven = Table(tuple("abcd"), ((0, 1, 2), (1, 2, 0)))
        self.assertEqual(kept_batches(seven, NONE, (0, 1, 2, 3)), slow_kept(seven, NONE, (0, 1, 2, 3)))
        ten = Table(tuple("abcd"), ((0, 1, 3),))
        self.refused(kept_batches, ten, NONE, (0, 1, 2, 3))
        self.refused(right_batches, ten, NONE, (0, 1, 2, 3), (1,))
        self.assertEqual(len(kept_batches(ten, NONE, (1, 2, 3))), 1000)
        self.assertIs(can_keep_together(ten, NONE, (0, 1, 2, 3)), True)

    def test_the_widest_window_for_two_things(self):
        table = Table(tuple("abcd"), ((2, 3, 4),))
        times = (0, 20, None, None)
        self.assertEqual(window_of(table, times), (-12, 32))
        self.assertEqual(kept_batches(table, times, (2, 3)), slow_kept(table, times, (2, 3)))

    def test_ways_are_refused_where_ties_are_broken_too(self):
        broken = Table(tuple("abcd"), ((0, 1, 3), (1, 0, -1)))
        self.refused(kept_batches, broken, (0, None, None, None), (1, 2, 3))


class WindowTest(GamesCase):
    def test_windows(self):
        self.assertEqual(window_of(RING, NONE), (0, 3))
        self.assertEqual(window_of(RING, (7, None, None, None)), (4, 10))
        self.assertEqual(window_of(RING, (7, 9, None, 5)), (2, 12))
        self.assertEqual(window_of(table=PAIR, times=(None, -4)), (-6, -2))
        four = Table(tuple("abcd"), ((0, 1, 4), (2, 3, 1)))
        self.assertEqual(window_of(four, (None, 0, None, 20)), (-12, 32))

    def test_no_weight_above_0(self):
        for ties in ((), ((0, 1, 0),), ((0, 1, -5), (1, 2, -10 ** 6))):
            table = Table(tuple("abc"), ties)
            self.assertEqual(window_of(table, (None,) * 3), (0, 0))
            self.assertEqual(window_of(table, (3, None, 8)), (3, 8))

    def test_one_thing(self):
        self.assertEqual(window_of(Table(("a",), ()), (None,)), (0, 0))
        self.assertEqual(window_of(Table(("a",), ()), (5,)), (5, 5))

    def test_great_times(self):
        self.assertEqual(window_of(PAIR, (10 ** 9, None)), (10 ** 9 - 2, 10 ** 9 + 2))
        self.assertEqual(kept_batches(PAIR, (10 ** 9, None), (1,)), (((1, 10 ** 9 + 2),),))

    def test_by_the_words(self):
        for table, times in games(100, 17, 4, 6, -3, 4, 9):
            self.assertEqual(window_of(table, times), window(table, times))


class KeptTest(GamesCase):
    def test_against_a_slow_way(self):
        for table, times in games(120, 18):
            for lot in lots_of(missing_things(times), 3):
                found = kept_batches(table, times, lot)
                self.assertEqual(found, slow_kept(table, times, lot))
                self.assertEqual(found, tuple(sorted(found)))

    def test_the_lot_without_things(self):
        self.assertEqual(kept_batches(RING, NONE, ()), ((),))
        self.assertEqual(kept_batches(RING, (0, 1, None, None), ()), ((),))
        self.assertEqual(kept_batches(table=RING, times=(0, 0, None, None), lot=()), ())
        self.assertEqual(kept_batches(RING, (0, 0, None, None), (2,)), ())
        self.assertEqual(kept_batches(PAIR, (0, 2), ()), ((),))

    def test_together_against_them(self):
        for table, times in games(150, 19, 4, 7, -2, 2):
            for lot in lots_of(missing_things(times), 2):
                self.assertIs(can_keep_together(table, times, lot), kept_batches(table, times, lot) != ())

    def test_together_beyond_the_window(self):
        # a weight far below 0 bounds no one
        table = Table(("a", "b"), ((0, 1, -10 ** 6), (1, 0, -10 ** 6)))
        self.assertIs(can_keep_together(table, (0, None), (1,)), True)
        self.assertIs(can_keep_together(PAIR, (0, 4), ()), False)
        self.assertIs(can_keep_together(table=PAIR, times=(0, 3), lot=()), True)
        self.assertIs(can_keep_together(PAIR, (None, None), ()), True)

    def test_things_that_do_not_come_together(self):
        ring = Table(tuple("abcd"), ring_of(4, 1))
        for lot in lots_of(range(4), 4):
            self.assertIs(can_keep_together(ring, NONE, lot), len(lot) < 4)
        self.assertIs(can_keep_together(ring, (0, None, None, None), (1, 2)), True)
        self.assertIs(can_keep_together(ring, (0, None, None, None), (1, 2, 3)), False)

    def test_the_later_and_the_earlier_times_are_among_them(self):
        for table, times in games(60, 20):
            for lot in lots_of(missing_things(times), 2):
                found = kept_batches(table, times, lot)
                for one, other in itertools.product(found[:12], found[-12:]):
                    for choice in (max, min):
                        self.assertIn(tuple(choice(pairs) for pairs in zip(one, other)), found)


class CanKeepTest(GamesCase):
    def test_the_example_of_the_document(self):
        self.assertEqual((can_keep_together(RING, NONE, (0, 1, 2)), least_orders(RING, NONE, 4)), (True, 3))
        self.assertEqual((can_keep(RING, NONE, (1, 2)), can_keep(RING, NONE, (2, 1))), (True, False))

    def test_against_whole_games(self):
        for table, times in games(150, 21):
            for batches in BATCHES:
                self.assertIs(can_keep(table, times, batches), game_keeps(table, times, batches))

    def test_against_whole_games_of_four_things(self):
        for table, times in games(60, 22, 4, 6, -1, 1, 2):
            for batches in BATCHES:
                self.assertIs(can_keep(table, times, batches), game_keeps(table, times, batches))

    def test_rings_near_0(self):
        for count in (2, 3, 4):
            for weight in (-1, 0, 1, 2):
                table = Table(tuple("abcd"[:count]), ring_of(count, weight))
                for times in ((None,) * count, (0,) + (None,) * (count - 1)):
                    for batches in BATCHES + [(4,), (2, 2)]:
                        told = can_keep(table, times, batches)
                        self.assertIs(told, slow_held(table, times, batches))
                        if count < 4 or weight < 2:
                            self.assertIs(told, game_keeps(table, times, batches))

    def test_against_walks_of_as_many_ties(self):
        for table, times in games(200, 23, 4, 8, -4, 4, 9):
            for batches in BATCHES + [(4,), (1, 3), (2, 2), (1, 1, 1, 1), (100, 100, 100, 100)]:
                self.assertIs(can_keep(table=table, times=times, batches=batches), slow_held(table, times, batches))

    def test_broken_at_the_beginning(self):
        for batches in BATCHES:
            self.assertIs(can_keep(PAIR, (0, 1), batches), False)
            self.assertIs(can_keep(PAIR, (0, 2), batches), True)

    def test_among_against_whole_games(self):
        for table, times in games(100, 24):
            for lot in lots_of(range(len(times)), 3):
                for batches in ((), (1,), (2,), (1, 1), (2, 1)):
                    told = can_keep_among(table, times, lot, batches)
                    self.assertIs(told, game_keeps(table, times, batches, lot))

    def test_among_against_walks_of_what_may_come(self):
        for table, times in games(100, 25, 4, 8, -3, 3, 9):
            for lot in lots_of(missing_things(times), 4):
                gone = [thing for thing in missing_things(times) if thing not in lot]
                far = tuple(at for at, tie in enumerate(table.ties) if tie[0] in gone or tie[1] in gone)
                for batches in ((), (1,), (2,), (1, 1), (4,)):
                    told = slow_held(without_ties(table, far), times, batches)
                    self.assertIs(can_keep_among(table, times, lot, batches), told)

    def test_among_nothing(self):
        for batches in BATCHES:
            self.assertIs(can_keep_among(RING, NONE, (), batches), True)
            self.assertIs(can_keep_among(PAIR, (0, 1), (), batches), False)
        self.assertIs(can_keep_among(table=RING, times=NONE, lot=(0, 1, 2, 3), batches=(4,)), False)
        self.assertIs(can_keep_among(RING, NONE, (0, 1, 2), (4,)), True)

    def test_least_orders(self):
        for count, told in ((2, 2), (3, 3), (4, 3)):
            ring = Table(tuple("abcd"[:count]), ring_of(count, 1))
            nothing = (None,) * count
            for most in range(5):
                self.assertEqual(least_orders(ring, nothing, most), told if most >= told else None)
        self.assertEqual(least_orders(PAIR, (0, 1), 0), 0)
        self.assertIsNone(least_orders(PAIR, (0, 2), 4))
        self.assertIsNone(least_orders(table=PAIR, times=(None, None), most=4))
        for table, times in games(60, 26):
            beaten = [many for many in range(4) if not game_keeps(table, times, (1,) * many)]
            self.assertEqual(least_orders(table, times, 3), min(beaten, default=None))


class HarderTest(GamesCase):
    """The sentences of point 18 on what is as hard, or no harder."""

    def harder(self, one, other):
        """Whoever can keep in the first game can in the second one."""
        self.assertTrue(can_keep(*other) or not can_keep(*one), (one, other))

    def test_times_beyond_the_window(self):
        for table, times in games(60, 38):
            for batches in BATCHES:
                for wider in (1, 3):
                    told = game_keeps(table, times, batches, wider=wider)
                    self.assertIs(can_keep(table, times, batches), told)

    def test_moved_and_turned(self):
        for table, times in games(80, 27, 4, 7):
            for batches in BATCHES:
                told = can_keep(table, times, batches)
                moved = tuple(None if time is None else time + 7 for time in times)
                back = tuple(None if time is None else -time for time in times)
                self.assertIs(can_keep(table, moved, batches), told)
                self.assertIs(can_keep(turned(table), back, batches), told)

    def test_a_weaker_tie_beside_another_one(self):
        for table, times in games(80, 28, 4, 7):
            for x, y, weight in table.ties[:2]:
                more = Table(table.things, table.ties + ((x, y, weight - 1), (x, y, weight)))
                for batches in BATCHES:
                    self.assertIs(can_keep(more, times, batches), can_keep(table, times, batches))

    def test_weaker_ties(self):
        for table, times in games(60, 29, 4, 7):
            for at, (x, y, weight) in enumerate(table.ties):
                weaker = Table(table.things, table.ties[:at] + ((x, y, weight - 1),) + table.ties[at + 1:])
                for batches in BATCHES:
                    self.harder((table, times, batches), (weaker, times, batches))
                    self.harder((table, times, batches), (without_ties(table, (at,)), times, batches))

    def test_smaller_batches_left_out_and_joined(self):
        for table, times in games(80, 30, 4, 7):
            for batches in ((2,), (3,), (1, 2), (2, 1), (2, 2), (1, 1, 1), (1, 2, 1), (2, 1, 1)):
                for at, size in enumerate(batches):
                    first, behind = batches[:at], batches[at + 1:]
                    self.harder((table, times, batches), (table, times, first + behind))
                    if size > 1:
                        self.harder((table, times, batches), (table, times, first + (size - 1,) + behind))
                    if behind:
                        joined = first + (size + behind[0],) + behind[1:]
                        self.harder((table, times, batches), (table, times, joined))

    def test_fewer_things_that_may_come(self):
        for table, times in games(60, 31, 4, 7):
            for batches in BATCHES:
                for lot in lots_of(missing_things(times), 4):
                    told = can_keep_among(table, times, lot, batches)
                    self.assertTrue(told or not can_keep(table, times, batches))
                    for thing in lot:
                        less = tuple(other for other in lot if other != thing)
                        self.assertTrue(can_keep_among(table, times, less, batches) or not told)

    def test_lots_can_be_kept_together(self):
        for table, times in games(80, 32, 4, 7):
            for batches in BATCHES:
                if can_keep(table, times, batches):
                    for lot in lots_of(missing_things(times), sum(batches)):
                        self.assertTrue(can_keep_together(table, times, lot))


class RightTest(GamesCase):
    def test_the_example_of_the_document(self):
        ale = (0, None, None, None)
        self.assertEqual(right_batches(RING, ale, (1,), (1,)), (((1, 1),), ((1, 2),), ((1, 3),)))
        self.assertEqual(right_batches(RING, ale, (2,), (1,)), ())

    def test_against_whole_games(self):
        for table, times in games(120, 33):
            for lot in lots_of(missing_things(times), 2):
                for batches in ((), (1,), (2,), (1, 1)):
                    right = tuple(
                        pairs for pairs in slow_kept(table, times, lot)
                        if game_keeps(table, with_times(times, *(zip(*pairs) if pairs else ((), ()))), batches)
                    )
                    self.assertEqual(right_batches(table=table, times=times, lot=lot, batches=batches), right)

    def test_what_lies_in_the_middle_is_right(self):
        for table, times in games(60, 34):
            for lot in lots_of(missing_things(times), 2):
                for batches in ((), (1,), (2,)):
                    right = right_batches(table, times, lot, batches)
                    for one, other in itertools.product(right[:8], right[-8:]):
                        middle = tuple((thing, (time + more) // 2) for (thing, time), (_, more) in zip(one, other))
                        self.assertIn(middle, right)

    def test_answers_far_apart_are_judged(self):
        # behind the answer the times lie more than 20 apart
        table = Table(tuple("abc"), ((0, 1, 4),))
        found = right_batches(table, (0, 20, None), (2,), (1, 1))
        self.assertEqual(found, tuple((((2, time),)) for time in range(-8, 29)))

    def test_beating_lots_against_whole_games(self):
        for table, times in games(120, 35):
            for batches in ((), (1,), (2,), (3,), (1, 1), (2, 1), (1, 1, 1)):
                beating = tuple(sorted(
                    lot for lot in lots_of(missing_things(times), batches[0])
                    if not game_answers(table, times, lot, batches[1:])
                )) if batches else ()
                self.assertEqual(beating_lots(table, times, batches), beating)

    def test_beating_lots(self):
        self.assertEqual(beating_lots(RING, NONE, ()), ())
        self.assertEqual(beating_lots(RING, NONE, (3, 1)), ((0, 1, 2), (0, 1, 3), (0, 2), (0, 2, 3), (1, 2, 3), (1, 3)))
        self.assertEqual(beating_lots(PAIR, (0, 1), (1,)), ((),))
        self.assertEqual(beating_lots(RING, NONE, (4,)), ((0, 1, 2, 3),))
        self.assertEqual(beating_lots(table=RING, times=NONE, batches=(100,)), ((0, 1, 2, 3),))

    def test_beating_lots_exactly_where_none_can_keep(self):
        for table, times in games(150, 36, 4, 7, -4, 4, 9):
            for batches in BATCHES[1:] + [(4,), (2, 2), (1, 1, 2)]:
                self.assertIs(beating_lots(table, times, batches) == (), can_keep(table, times, batches))

    def test_answers_far_below(self):
        # what is right for thing 1 lies far below the window
        table = Table(tuple("abc"), ((1, 0, 4), (1, 2, -10 ** 6)))
        self.assertEqual(beating_lots(table, (0, None, None), (1, 1)), ())
        self.assertEqual(right_batches(table, (0, None, None), (1,), (1,))[-1], ((1, -4),))


class FirstTest(GamesCase):
    def slow_first(self, table, lots, batches):
        """The day, by the first right one of all batches in the window."""
        times, day = (None,) * len(table.things), []
        for at, lot in enumerate(lots):
            right = [
                pairs for pairs in slow_kept(table, times, lot)
                if slow_held(table, with_times(times, *zip(*pairs)), batches[at + 1:])
            ]
            if not right:
                return None
            day.append(right[0])
            times = with_times(times, *zip(*right[0]))
        return tuple(day)

    def test_the_example_of_the_document(self):
        self.assertEqual(first_answers(RING, ((0,), (2,)), (1, 1)), (((0, 0),), ((2, -3),)))

    def partitions(self, chance, count):
        """Lots that come one after another."""
        things = list(range(count))
        chance.shuffle(things)
        lots = []
        while things and chance.randrange(4):
            size = chance.randint(1, min(3, len(things)))
            lots.append(tuple(sorted(things[:size])))
            things = things[size:]
        return tuple(lots)

    def test_against_a_slow_way(self):
        chance = random.Random(37)
        for table in small_tables(150, 4, 6, -3, 2, seed=37):
            for _ in range(3):
                lots = self.partitions(chance, len(table.things))[:4]
                behind = tuple(chance.randint(1, 2) for _ in range(chance.randint(0, 4 - len(lots))))
                batches = tuple(len(lot) + chance.randrange(2) for lot in lots) + behind
                day = first_answers(table, lots, batches)
                self.assertEqual(day, self.slow_first(table, lots, batches), (table.ties, lots, batches))
                if can_keep(table, (None,) * len(table.things), batches):
                    self.assertIsNotNone(day)

    def test_none(self):
        self.assertIsNone(first_answers(RING, ((0, 2),), (2, 1)))
        self.assertIsNone(first_answers(RING, ((0, 1, 2, 3),), (4,)))
        self.assertIsNone(first_answers(RING, ((1,), (0, 2, 3)), (1, 3)))

    def test_fewer_lots_than_batches(self):
        self.assertEqual(first_answers(RING, ((0,), (1,)), (1, 1)), (((0, 0),), ((1, 1),)))
        self.assertEqual(first_answers(table=PAIR, lots=(), batches=(1, 1)), ())
        self.assertEqual(first_answers(RING, ((0,),), (1, 1)), (((0, 0),),))
        # those behind count, too
        self.assertEqual(first_answers(RING, ((0,),), (1, 2)), (((0, 0),),))
        self.assertIsNone(first_answers(RING, ((0,),), (1, 1, 1)))

    def test_times_far_apart(self):
        # each thing that hangs by nothing is said at the lower end of a window that grows
        table = Table(tuple("abcd"), ((0, 1, 4),))
        day = first_answers(table, ((2,), (3,), (0,), (1,)), (1, 1, 1, 1))
        self.assertEqual(day, (((2, 0),), ((3, -12),), ((0, -24),), ((1, -20),)))

    def test_many_ways(self):
        table = Table(tuple("abcd"), ((0, 1, 4), (1, 2, 4), (2, 3, 4)))
        self.assertEqual(first_answers(table, ((0, 1, 2, 3),), (4,)), (((0, 0), (1, 4), (2, 8), (3, 12)),))


if __name__ == "__main__":
    unittest.main()
