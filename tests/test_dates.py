import unittest

from freehour.dates import date_of, day_of, from_end
from freehour.errors import HourError, NoDate
from tests.naive import MONTH_LENGTHS, dates_of, months_of

HUGE = 10 ** 30


class TestDateOf(unittest.TestCase):
    def test_day_0(self):
        self.assertEqual(date_of(0), (0, 1, 1))

    def test_it_is_a_tuple_of_whole_numbers(self):
        told = date_of(1234)
        self.assertIs(type(told), tuple)
        self.assertEqual([type(part) for part in told], [int, int, int])

    def test_each_day_of_forty_years(self):
        for day, date in enumerate(dates_of(40)):
            self.assertEqual(date_of(day), date)

    def test_beside_the_end_of_a_year(self):
        self.assertEqual(date_of(365), (0, 12, 31))
        self.assertEqual(date_of(366), (1, 1, 1))
        self.assertEqual(date_of(730), (1, 12, 31))
        self.assertEqual(date_of(731), (2, 1, 1))
        self.assertEqual(date_of(1460), (3, 12, 31))
        self.assertEqual(date_of(1461), (4, 1, 1))

    def test_beside_the_end_of_month_2(self):
        self.assertEqual(date_of(31), (0, 2, 1))
        self.assertEqual(date_of(58), (0, 2, 28))
        self.assertEqual(date_of(59), (0, 2, 29))
        self.assertEqual(date_of(60), (0, 3, 1))
        self.assertEqual(date_of(366 + 58), (1, 2, 28))
        self.assertEqual(date_of(366 + 59), (1, 3, 1))

    def test_hundreds_and_four_hundreds_are_long_too(self):
        for year in (100, 200, 300, 400, 1000):
            self.assertEqual(date_of(day_of(year, 2, 28) + 1), (year, 2, 29))

    def test_days_of_many_figures(self):
        # A multiple of the four years' length moves the year and nothing else.
        for day, (year, month, number) in enumerate(dates_of(4)):
            self.assertEqual(date_of(day + 1461 * HUGE), (year + 4 * HUGE, month, number))
        self.assertEqual(day_of(*date_of(HUGE)), HUGE)
        self.assertEqual(day_of(*date_of(10 ** 6000)), 10 ** 6000)


class TestDayOf(unittest.TestCase):
    def test_first_and_last_day_of_each_month(self):
        first = 0
        for year, month, length in months_of(12):
            self.assertEqual(day_of(year, month, 1), first)
            self.assertEqual(day_of(year, month, length), first + length - 1)
            first += length

    def test_there_and_back(self):
        for day in range(15000):
            self.assertEqual(day_of(*date_of(day)), day)
        for day in range(HUGE, HUGE + 3000):
            self.assertEqual(day_of(*date_of(day)), day)

    def test_years_of_many_figures(self):
        for year in (HUGE, HUGE + 1, HUGE + 2, HUGE + 3):
            self.assertEqual(day_of(year, 12, 31) + 1, day_of(year + 1, 1, 1))
            self.assertEqual(date_of(day_of(year, 3, 1)), (year, 3, 1))

    def test_no_such_month(self):
        for month in (0, 13, -1, -12, 14, HUGE, -HUGE):
            for year in (0, 1, HUGE):
                with self.assertRaises(NoDate):
                    day_of(year, month, 1)

    def test_no_such_number(self):
        for year, month, length in months_of(5):
            for number in (0, -1, -31, length + 1, 32, 33, HUGE):
                with self.assertRaises(NoDate):
                    day_of(year, month, number)

    def test_numbers_that_some_months_have(self):
        for year in (0, 1, 2, 3, 4, 100, HUGE, HUGE + 1):
            for month in range(1, 13):
                length = MONTH_LENGTHS[month - 1] + (1 if month == 2 and year % 4 == 0 else 0)
                for number in (28, 29, 30, 31):
                    if number <= length:
                        self.assertEqual(date_of(day_of(year, month, number)), (year, month, number))
                    else:
                        with self.assertRaises(NoDate):
                            day_of(year, month, number)

    def test_true_and_false_are_no_month_and_no_number(self):
        for year in (0, 1, 4, 2025, HUGE):
            for month, number in ((True, 27), (1, True), (False, 5), (1, False), (True, True), (2, True), (True, 0)):
                for kind in (NoDate, HourError, ValueError):
                    with self.assertRaises(kind):
                        day_of(year, month, number)

    def test_the_refusal_is_taken_as_all_three(self):
        for kind in (NoDate, HourError, ValueError):
            for month, number in ((13, 1), (2, 30)):
                with self.assertRaises(kind):
                    day_of(0, month, number)

    def test_refusal_with_numbers_of_any_size(self):
        # Python itself does not write numbers of so many figures.
        with self.assertRaises(NoDate):
            day_of(10 ** 6000, 10 ** 6000, 1)
        with self.assertRaises(NoDate):
            day_of(10 ** 6000, 1, 10 ** 6000)


class TestFromEnd(unittest.TestCase):
    def test_each_day_of_twelve_years(self):
        day = 0
        for _, _, length in months_of(12):
            for place in range(-length, 0):
                self.assertEqual(from_end(day), place)
                day += 1

    def test_last_one_ahead_and_first(self):
        for year, month, length in months_of(5):
            self.assertEqual(from_end(day_of(year, month, length)), -1)
            self.assertEqual(from_end(day_of(year, month, length - 1)), -2)
            self.assertEqual(from_end(day_of(year, month, 1)), -length)

    def test_day_0(self):
        self.assertEqual(from_end(0), -31)

    def test_days_of_many_figures(self):
        self.assertEqual(from_end(day_of(4 * HUGE, 2, 29)), -1)
        self.assertEqual(from_end(day_of(4 * HUGE, 2, 28)), -2)
        self.assertEqual(from_end(day_of(4 * HUGE + 1, 2, 28)), -1)
        self.assertEqual(from_end(day_of(4 * HUGE + 1, 2, 1)), -28)


if __name__ == "__main__":
    unittest.main()
