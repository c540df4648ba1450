"""Point 58, calls and forecasts."""

import unittest

from saidatonce.errors import InvalidNumber
from saidatonce.forecasts import are_calls, check_forecast, news_behind, numbers_of, plain_forecast
from saidatonce.tables import Table
from tests.odd import Sour, Yes, odd_values

TABLE = Table(("a", "b", "c"), ((0, 1, 1),))
FORECAST = (((0, 2), 1), ((), 4), ((0, 1, 2), 100))


class CallsTest(unittest.TestCase):
    def right(self, value, table=TABLE):
        self.assertIs(are_calls(table, value), True)
        self.assertIsNone(check_forecast(table, value))

    def wrong(self, value, table=TABLE):
        self.assertIs(are_calls(table, value), False)
        with self.assertRaises(InvalidNumber) as caught:
            check_forecast(table, value)
        self.assertEqual(caught.exception.word, "forecast")

    def test_forecasts(self):
        for value in ((), FORECAST, (((1,), 1),), (((0, 1), 2), ((0, 1), 2))):
            self.right(value)
        self.assertIs(are_calls(table=TABLE, value=FORECAST), True)
        self.assertIsNone(check_forecast(table=TABLE, value=FORECAST))

    def test_an_empty_lot(self):
        self.right((((), 1),))
        self.right((((), 100), ((), 1)), Table(("a",), ()))

    def test_how_many_calls(self):
        for many in (1, 59, 60):
            self.right((((0,), 1),) * many)
        for many in (61, 62, 30000):
            self.wrong((((0,), 1),) * many)

    def test_numbers(self):
        for number in (1, 2, 99, 100):
            self.right((((0,), number),))
        for number in (0, 101, -1, 10 ** 400, True, False, 1.0, "1", None, (1,), [1], Sour(), Yes()):
            self.wrong((((0,), number),))
            self.wrong(FORECAST + (((), number),))

    def test_lots(self):
        table = Table(tuple("abcdefghijkl"), ())
        self.right(((tuple(range(12)), 1), ((11,), 1)), table)
        for lot in ((12,), (-1,), (0, 0), (1, 0), (0, 2, 1), [0], (True,), (0, True), (0.0,), ("a",), "a", 0, None,
                    (0, None), ((0,),), range(2), (Sour(),), (Yes(),), (10 ** 400,), tuple(range(13))):
            self.wrong(((lot, 1),), table)
            self.wrong((((0,), 1), (lot, 1)), table)
        self.wrong((((3,), 1),))

    def test_calls_that_are_no_pairs(self):
        for call in (((0,),), ((0,), 1, 1), [(0,), 1], (1, (0,)), (), (0, 1), "01", 1):
            self.wrong((call,))
            self.wrong((((0,), 1), call))
            self.wrong((call, ((0,), 1)))

    def test_other_values(self):
        for value in odd_values() + [list(FORECAST), {}, 0, "ab"]:
            self.wrong(value)
            self.wrong((value,))
            self.wrong(FORECAST + (value,))
            self.wrong(((value, 1),))
            self.wrong((((0,), value),))
        self.wrong(((0,), 1))


class MadeTest(unittest.TestCase):
    def test_plain_forecast(self):
        self.assertEqual(plain_forecast(TABLE, ()), ())
        self.assertEqual(plain_forecast(TABLE, (2, 1)), (((0, 1, 2), 2), ((0, 1, 2), 1)))
        self.assertEqual(plain_forecast(table=Table(("a",), ()), batches=(100,)), (((0,), 100),))
        self.assertIs(are_calls(TABLE, plain_forecast(TABLE, (100,) * 60)), True)

    def test_numbers_of(self):
        self.assertEqual(numbers_of(()), ())
        self.assertEqual(numbers_of(FORECAST), (1, 4, 100))
        self.assertEqual(numbers_of(forecast=FORECAST[1:]), (4, 100))
        self.assertEqual(numbers_of(plain_forecast(TABLE, (5, 6, 7))), (5, 6, 7))

    def test_news_behind(self):
        self.assertEqual(news_behind(FORECAST, 0, 0), (((2,), 1), ((), 4), ((0, 1, 2), 100)))
        self.assertEqual(news_behind(FORECAST, 0, 2), (((0,), 1), ((), 4), ((0, 1, 2), 100)))
        self.assertEqual(news_behind(forecast=FORECAST, call=2, thing=1), (((0, 2), 1), ((), 4), ((0, 2), 100)))
        self.assertEqual(news_behind((((1,), 3),), 0, 1), (((), 3),))
        alike = (((0, 1), 2),) * 3
        self.assertEqual(news_behind(alike, 1, 1), (alike[0], ((0,), 2), alike[0]))


if __name__ == "__main__":
    unittest.main()
