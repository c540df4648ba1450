"""Points 6, 7 and 9: tables, tables made of others, tables turned and stretched, pieces."""

import itertools
import unittest

from saidatonce.errors import InvalidNumber, InvalidTable, Refused
from saidatonce.tables import (
    Table, pieces_of, renamed_table, sharpest, sharpest_tie, stretched, thing_number, things_but, tie_weight,
    ties_between, ties_with, turned, with_tie, without_things, without_ties,
)
from saidatonce.times import placed_times, stretched_times, times_without, turned_times
from tests.odd import Sour, Yes, keeps, odd_values, small_tables

NAMES = tuple("abcdefghijklm")
MILLION = 10 ** 6


def all_times(count, low=-2, high=2):
    return itertools.product((None,) + tuple(range(low, high + 1)), repeat=count)


def example():
    return Table(("a", "b", "c", "d"), ((1, 0, 2), (0, 1, -3), (1, 0, 4), (2, 0, 0)))


class TableCase(unittest.TestCase):
    def refuses(self, word, call, *given):
        with self.assertRaises(Refused) as caught:
            call(*given)
        self.assertEqual(caught.exception.word, word)

    def same(self, table, things, ties):
        self.assertIsInstance(table, Table)
        self.assertEqual((table.things, table.ties), (things, ties))


class MadeTest(TableCase):
    def invalid(self, at, things, ties):
        with self.assertRaises(InvalidTable) as caught:
            Table(things, ties)
        self.assertEqual(caught.exception.at, at)

    def test_what_it_keeps(self):
        self.same(Table(("a",), ()), ("a",), ())
        ties = ((0, 1, 5), (1, 0, -5), (0, 1, 5))
        self.same(Table(things=("abcdef", "b"), ties=ties), ("abcdef", "b"), ties)

    def test_things(self):
        for value in odd_values():
            self.invalid(-2, value, ())
            self.invalid(-2, value, ((0, 0, 0),))
            self.invalid(-2, (value,), ())
            self.invalid(-2, ("a", value), ())
            self.invalid(-2, (value, "zzz"), ())
        for things in ((), ["a"], ("a", "a"), ("b", "a"), ("a", "c", "b"), ("abcdefg",), ("A",), ("a", "B"), ("a1",),
                       ("a b",), ("a\n",), (" ",), ("`",), ("{",), ("caf\u00e9",), "ab", ("",), ("a", ("b",)), (1, 2)):
            self.invalid(-2, things, ())

    def test_ascending_as_python_compares(self):
        Table(("a", "ab", "abc", "b"), ())
        Table(("aa", "z", "zz"), ())
        self.invalid(-2, ("ab", "a"), ())
        self.invalid(-2, ("b", "aa"), ())

    def test_how_many_things(self):
        self.assertEqual(Table(NAMES[:12], ()).things, NAMES[:12])
        self.invalid(-2, NAMES[:13], ())

    def test_ties_as_a_whole(self):
        for value in odd_values():
            if isinstance(value, tuple) and len(value) <= 60:
                self.invalid(0, ("a", "b"), value)
            else:
                self.invalid(-1, ("a", "b"), value)
        self.invalid(-1, ("a", "b"), [(0, 1, 1)])
        self.invalid(-1, ("a", "b"), ((0, 1, 1),) * 61)
        self.assertEqual(len(Table(("a", "b"), ((0, 1, 1),) * 60).ties), 60)

    def test_single_ties(self):
        wrong = [
            (0, 0, 1), (1, 1, 1), (0, 2, 1), (2, 0, 1), (-1, 0, 1), (0, -1, 1), (0, 1), (0, 1, 1, 1), [0, 1, 1], (),
            (False, 1, 1), (0, True, 1), (0, 1, True), (0, 1, False), (0, 1, 1.0), (0.0, 1, 1), (0, 1.0, 1),
            (0, 1, None), (0, 1, "1"), (0, 1, MILLION + 1), (0, 1, -MILLION - 1), (0, 1, 10 ** 400), ("a", "b", 1),
            (0, 10 ** 400, 1), (0, Sour(), 1), (Yes(), 1, 1), (0, 1, Yes()),
        ] + odd_values()
        for tie in wrong:
            self.invalid(0, ("a", "b"), (tie,))
            self.invalid(1, ("a", "b"), ((0, 1, 1), tie))
            self.invalid(2, ("a", "b"), ((0, 1, 1), (1, 0, 1), tie, (0, 0, 0)))

    def test_weights_at_their_ends(self):
        for weight in (-MILLION, -1, 0, 1, MILLION):
            self.assertEqual(Table(("a", "b"), ((0, 1, weight),)).ties, ((0, 1, weight),))

    def test_numbers_of_things_at_their_ends(self):
        Table(NAMES[:12], ((11, 0, 0), (0, 11, 0)))
        self.invalid(0, NAMES[:12], ((12, 0, 0),))
        self.invalid(0, ("a",), ((0, 0, 0),))
        self.invalid(0, ("a",), ((0, 1, 0),))

    def test_the_order_of_what_it_refuses(self):
        self.invalid(-2, ("b", "a"), [])
        self.invalid(-2, (), ((0, 0, 0),))
        self.invalid(-1, ("a", "b"), ((0, 0, 0),) * 61)
        self.invalid(1, ("a", "b"), ((0, 1, 0), (0, 0, 0), (5, 5, 5)))

    def test_equal_tables(self):
        table = Table(("a", "b"), ((0, 1, 2), (1, 0, -3)))
        self.assertTrue(table == Table(("a", "b"), ((0, 1, 2), (1, 0, -3))))
        self.assertFalse(table != Table(("a", "b"), ((0, 1, 2), (1, 0, -3))))
        for other in (Table(("a", "c"), ((0, 1, 2), (1, 0, -3))), Table(("a", "b"), ((1, 0, -3), (0, 1, 2))),
                      Table(("a", "b"), ((0, 1, 2),)), Table(("a", "b", "c"), ((0, 1, 2), (1, 0, -3))),
                      Table(("a", "b"), ((0, 1, 2), (1, 0, -2)))):
            self.assertFalse(table == other)
            self.assertTrue(table != other)

    def test_equal_to_nothing_else(self):
        table = Table(("a",), ())
        for other in odd_values() + [("a",), (("a",), ()), "a", 0]:
            self.assertIs(table == other, False)
            self.assertIs(table != other, True)

    def test_equal_to_no_likeness(self):
        class Like:
            things = ("a",)
            ties = ()
        self.assertFalse(Table(("a",), ()) == Like())


class AskedTest(TableCase):
    def test_thing_number(self):
        table = Table(("ale", "bun", "z"), ())
        self.assertEqual([thing_number(table, name) for name in ("ale", "bun", "z")], [0, 1, 2])
        self.assertEqual(thing_number(table=table, name="bun"), 1)
        for name in odd_values() + ["al", "alef", "ale ", "Ale", "", 0, 1, ("ale",), b"ale", ["bun"]]:
            self.refuses("thing", thing_number, table, name)

    def test_ties_with(self):
        table = example()
        self.assertEqual([ties_with(table, thing) for thing in range(4)], [(0, 1, 2, 3), (0, 1, 2), (3,), ()])
        self.assertEqual(ties_with(Table(("a", "b", "c"), ((0, 1, 2), (1, 0, 2))), 2), ())

    def test_ties_between(self):
        table = example()
        self.assertEqual(ties_between(table, 1, 0), (0, 2))
        self.assertEqual(ties_between(table, 0, 1), (1,))
        self.assertEqual(ties_between(table, 0, 2), ())
        self.assertEqual(ties_between(table, 2, 0), (3,))
        self.assertEqual(ties_between(table, 0, 0), ())
        self.assertEqual(ties_between(table, 3, 3), ())

    def test_sharpest_tie_and_weight(self):
        table = example()
        self.assertEqual((sharpest_tie(table, 1, 0), tie_weight(table, 1, 0)), (2, 4))
        self.assertEqual((sharpest_tie(table, 0, 1), tie_weight(table, 0, 1)), (1, -3))
        self.assertEqual((sharpest_tie(table, 2, 0), tie_weight(table, 2, 0)), (3, 0))
        for one, other in ((0, 2), (3, 0), (0, 3), (0, 0), (1, 1)):
            self.assertIsNone(sharpest_tie(table, one, other))
            self.assertIsNone(tie_weight(table, one, other))

    def test_the_first_one_of_several_with_the_greatest_weight(self):
        table = Table(("a", "b"), ((1, 0, 9), (0, 1, -7), (0, 1, -2), (0, 1, -2), (0, 1, -5), (0, 1, -2)))
        self.assertEqual((sharpest_tie(table, 0, 1), tie_weight(table, 0, 1)), (2, -2))
        self.assertEqual((sharpest_tie(table, 1, 0), tie_weight(table, 1, 0)), (0, 9))
        table = Table(("a", "b"), ((0, 1, 0), (0, 1, 0)))
        self.assertEqual((sharpest_tie(table, 0, 1), tie_weight(table, 0, 1)), (0, 0))

    def test_asked_by_a_slow_way(self):
        for table in small_tables(60, 4, 8):
            count = len(table.things)
            for one in range(count):
                numbers = [at for at, tie in enumerate(table.ties) if tie[0] == one or tie[1] == one]
                self.assertEqual(ties_with(table, one), tuple(numbers))
                for other in range(count):
                    between = [at for at, tie in enumerate(table.ties) if tie[0] == one and tie[1] == other]
                    self.assertEqual(ties_between(table, one, other), tuple(between))
                    weights = [table.ties[at][2] for at in between]
                    self.assertEqual(tie_weight(table, one, other), max(weights, default=None))
                    first = between[weights.index(max(weights))] if between else None
                    self.assertEqual(sharpest_tie(table, one, other), first)

    def test_things_but(self):
        table = example()
        self.assertEqual(things_but(table, ()), (0, 1, 2, 3))
        self.assertEqual(things_but(table, (1, 3)), (0, 2))
        self.assertEqual(things_but(table, (0, 1, 2, 3)), ())
        self.assertEqual(things_but(table=table, lot=(0,)), (1, 2, 3))


class MadeOfOthersTest(TableCase):
    def test_sharpest(self):
        table = sharpest(example())
        self.same(table, ("a", "b", "c", "d"), ((0, 1, -3), (1, 0, 4), (2, 0, 0)))
        self.same(sharpest(Table(("a",), ())), ("a",), ())
        table = Table(("a", "b", "c"), ((2, 1, 0), (2, 0, 0), (0, 2, -1), (0, 2, 1), (0, 1, 5), (0, 2, 0)))
        self.same(sharpest(table), table.things, ((0, 1, 5), (0, 2, 1), (2, 0, 0), (2, 1, 0)))

    def test_sharpest_keeps_the_same_times(self):
        for table in small_tables(25, 3, 7):
            for times in all_times(len(table.things)):
                self.assertEqual(keeps(table, times), keeps(sharpest(table), times))

    def test_without_ties(self):
        table = example()
        self.same(without_ties(table, ()), table.things, table.ties)
        self.same(without_ties(table, (0, 3)), table.things, ((0, 1, -3), (1, 0, 4)))
        self.same(without_ties(table, (1,)), table.things, ((1, 0, 2), (1, 0, 4), (2, 0, 0)))
        self.same(without_ties(table=table, ties=(0, 1, 2, 3)), table.things, ())

    def test_with_tie(self):
        table = example()
        self.same(with_tie(table, (3, 2, -7)), table.things, table.ties + ((3, 2, -7),))
        self.same(with_tie(table, (1, 0, 2)), table.things, table.ties + ((1, 0, 2),))
        self.same(with_tie(table=table, tie=(0, 3, MILLION)), table.things, table.ties + ((0, 3, MILLION),))
        self.assertEqual(table.ties, example().ties)

    def test_with_tie_refuses_what_is_none(self):
        wrong = [(0, 0, 1), (0, 4, 1), (4, 0, 1), (-1, 0, 1), (0, 1, MILLION + 1), (0, 1, -MILLION - 1), (0, 1),
                 (True, 0, 1), (0, 1, True), [0, 1, 1], (0, 1, 1, 1), (0, 1, 1.0), 0, 3]
        full = Table(("a", "b"), ((0, 1, 1),) * 60)
        for tie in wrong + odd_values():
            self.refuses("tie", with_tie, example(), tie)
            self.refuses("tie", with_tie, full, tie)

    def test_with_tie_refuses_a_61st(self):
        full = Table(("a", "b"), ((0, 1, 1),) * 60)
        self.refuses("size", with_tie, full, (0, 1, 1))
        self.refuses("size", with_tie, full, (1, 0, -1))
        nearly = Table(("a", "b"), ((0, 1, 1),) * 59)
        self.assertEqual(len(with_tie(nearly, (1, 0, 3)).ties), 60)

    def test_without_things(self):
        table = example()
        self.same(without_things(table, (1,)), ("a", "c", "d"), ((1, 0, 0),))
        self.same(without_things(table, ()), table.things, table.ties)
        self.same(without_things(table, (2, 3)), ("a", "b"), ((1, 0, 2), (0, 1, -3), (1, 0, 4)))
        self.same(without_things(table, (0,)), ("b", "c", "d"), ())
        self.same(without_things(table=table, things=(0, 1, 2)), ("d",), ())
        row = Table(("a", "b", "c", "d"), ((3, 1, 1), (1, 3, 2), (0, 3, 3), (2, 1, 4), (3, 1, 0)))
        self.same(without_things(row, (0, 2)), ("b", "d"), ((1, 0, 1), (0, 1, 2), (1, 0, 0)))

    def test_without_all_things(self):
        self.refuses("things", without_things, example(), (0, 1, 2, 3))
        self.refuses("things", without_things, Table(("a",), ()), (0,))

    def test_times_of_some_things(self):
        for table in small_tables(25, 3, 6, seed=2):
            count = len(table.things)
            for size in range(count):
                for lot in itertools.combinations(range(count), size):
                    rest = without_things(table, lot)
                    for times in all_times(count):
                        if all(times[thing] is None for thing in lot):
                            self.assertEqual(keeps(table, times), keeps(rest, times_without(times, lot)))

    def test_renamed_table(self):
        table = example()
        new, places = renamed_table(table, ("jam", "cup", "tea", "ale"))
        self.assertEqual(places, (2, 1, 3, 0))
        self.same(new, ("ale", "cup", "jam", "tea"), ((1, 2, 2), (2, 1, -3), (1, 2, 4), (3, 2, 0)))
        pair = renamed_table(table=table, names=table.things)
        self.assertIsInstance(pair, tuple)
        self.assertEqual(pair, (table, (0, 1, 2, 3)))

    def test_renamed_in_a_ring(self):
        table = Table(("a", "b", "c"), ((0, 1, 1), (1, 2, 2), (2, 0, 3)))
        new, places = renamed_table(table, ("b", "c", "a"))
        self.assertEqual(places, (1, 2, 0))
        self.same(new, ("a", "b", "c"), ((1, 2, 1), (2, 0, 2), (0, 1, 3)))

    def test_renamed_times_are_kept_as_before(self):
        for table in small_tables(20, 3, 6, seed=3):
            count = len(table.things)
            for names in itertools.permutations(("x", "y", "za")[:count]):
                new, places = renamed_table(table, names)
                self.assertEqual(tuple(new.things[place] for place in places), names)
                for times in all_times(count, -1, 2):
                    self.assertEqual(keeps(table, times), keeps(new, placed_times(times, places)))

    def test_renamed_table_refuses(self):
        table = Table(("a", "b"), ((0, 1, 1),))
        wrong = [("a",), ("a", "b", "c"), ("a", "a"), ["a", "b"], "ab", ("a", ""), ("a", "B"), ("a", "abcdefg"),
                 ("a", 1), (1, 2), ("a", None), ("a", Sour()), (Yes(), "b"), ("a", ["b"]), (), {"a": 1, "b": 2}]
        for names in wrong + odd_values():
            self.refuses("names", renamed_table, table, names)

    def test_turned(self):
        self.same(turned(example()), example().things, ((0, 1, 2), (1, 0, -3), (0, 1, 4), (0, 2, 0)))
        self.assertEqual(turned(turned(example())), example())

    def test_turned_times_are_kept_as_before(self):
        for table in small_tables(25, 3, 6, seed=4):
            for times in all_times(len(table.things)):
                self.assertEqual(keeps(table, times), keeps(turned(table), turned_times(times)))

    def test_stretched(self):
        self.same(stretched(example(), 3), example().things, ((1, 0, 6), (0, 1, -9), (1, 0, 12), (2, 0, 0)))
        self.assertEqual(stretched(example(), 1), example())
        self.assertEqual(stretched(table=example(), factor=2).ties[0], (1, 0, 4))

    def test_stretched_times_are_kept_as_before(self):
        for table in small_tables(20, 3, 6, seed=5):
            for factor in (1, 2, 5):
                for times in all_times(len(table.things)):
                    self.assertEqual(keeps(table, times), keeps(stretched(table, factor), stretched_times(times, factor)))

    def test_stretched_refuses(self):
        for factor in odd_values() + [0, -1, -5, (1,), "1"]:
            for table in (example(), Table(("a", "b"), ((0, 1, MILLION),)), Table(("a",), ())):
                with self.assertRaises(InvalidNumber) as caught:
                    stretched(table, factor)
                self.assertEqual(caught.exception.word, "factor")

    def test_stretched_at_its_ends(self):
        for sign in (1, -1):
            table = Table(("a", "b"), ((0, 1, 0), (1, 0, sign * 10)))
            self.assertEqual(stretched(table, 10 ** 5).ties[1], (1, 0, sign * MILLION))
            self.refuses("size", stretched, table, 10 ** 5 + 1)
            table = Table(("a", "b"), ((1, 0, sign * MILLION), (0, 1, 3)))
            self.assertEqual(stretched(table, 1), table)
            self.refuses("size", stretched, table, 2)
            self.refuses("size", stretched, table, 10 ** 300)
        still = Table(("a", "b"), ((0, 1, 0),))
        self.assertEqual(stretched(still, 10 ** 300), still)

    def test_pieces(self):
        self.assertEqual(pieces_of(example()), ((0, 1, 2), (3,)))
        self.assertEqual(pieces_of(Table(("a",), ())), ((0,),))
        self.assertEqual(pieces_of(Table(("a", "b", "c"), ())), ((0,), (1,), (2,)))
        table = Table(NAMES[:6], ((4, 1, 0), (5, 3, 0), (0, 4, -1)))
        self.assertEqual(pieces_of(table), ((0, 1, 4), (2,), (3, 5)))
        table = Table(NAMES[:6], ((5, 4, 0), (3, 2, 0), (4, 3, 0), (1, 0, 0)))
        self.assertEqual(pieces_of(table), ((0, 1), (2, 3, 4, 5)))
        table = Table(NAMES[:4], ((3, 2, 0), (1, 0, 0), (2, 1, 0)))
        self.assertEqual(pieces_of(table), ((0, 1, 2, 3),))

    def test_pieces_by_a_slow_way(self):
        for table in small_tables(80, 8, 6, seed=6):
            count = len(table.things)
            pieces = [{thing} for thing in range(count)]
            for x, y, _ in table.ties:
                joined = [piece for piece in pieces if x in piece or y in piece]
                pieces = [piece for piece in pieces if piece not in joined] + [set().union(*joined)]
            self.assertEqual(pieces_of(table), tuple(sorted(tuple(sorted(piece)) for piece in pieces)))

    def test_times_are_kept_piece_by_piece(self):
        for table in small_tables(20, 3, 3, seed=7):
            pieces = pieces_of(table)
            for times in all_times(len(table.things), -1, 2):
                alone = [
                    tuple(time if thing in piece else None for thing, time in enumerate(times)) for piece in pieces
                ]
                self.assertEqual(keeps(table, times), all(keeps(table, part) for part in alone))


if __name__ == "__main__":
    unittest.main()
