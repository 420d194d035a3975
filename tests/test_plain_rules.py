"""Which hours the rules once, every, week and month begin at."""

import unittest

from freehour.dates import day_of
from freehour.rules import begins, length_of
from tests.naive import begins_of

FAR = 10 ** 12 - 1
HUGE = 10 ** 30
BELOW = (-1, -2, -22, -24, -168, -FAR, -HUGE)


class TestCase(unittest.TestCase):
    def check_years(self, rule, years):
        due = begins_of(rule, years)
        for hour in range(-200, years * 365 * 24):
            self.assertIs(begins(rule, hour), hour in due, (rule, hour))

    def check_none_below(self, rule):
        for hour in BELOW:
            self.assertIs(begins(rule, hour), False, (rule, hour))


class TestOnce(TestCase):
    def test_its_hour_and_those_beside(self):
        for first in (0, 1, 5, 23, 24, 1000, FAR):
            rule = ("once", first, 3)
            self.assertIs(begins(rule, first), True)
            for hour in (first - 1, first + 1, first + 2, first + 24, first + 168, HUGE):
                self.assertIs(begins(rule, hour), False, hour)

    def test_none_below_0(self):
        self.check_none_below(("once", 0, 3))

    def test_none_ahead_of_hour_0_even_if_it_says_so(self):
        self.assertIs(begins(("once", -1, 3), -1), False)

    def test_length(self):
        for length in (1, 2, 48):
            self.assertEqual(length_of(("once", 5, length)), length)


class TestEvery(TestCase):
    def test_all_hours_of_a_year(self):
        for rule in (("every", 5, 2, 24), ("every", 0, 48, 7), ("every", 100, 1, 1), ("every", 3, 2, 1000)):
            self.check_years(rule, 1)

    def test_its_hours_and_those_beside(self):
        rule = ("every", 5, 2, 10)
        for hour in (5, 15, 25, 105):
            self.assertIs(begins(rule, hour), True)
            self.assertIs(begins(rule, hour - 1), False)
            self.assertIs(begins(rule, hour + 1), False)

    def test_none_ahead_of_its_hour(self):
        rule = ("every", 25, 2, 10)
        for hour in (5, 15, 24):
            self.assertIs(begins(rule, hour), False)
        self.assertIs(begins(rule, 25), True)

    def test_none_below_0(self):
        self.check_none_below(("every", 0, 1, 1))
        self.check_none_below(("every", 0, 2, 24))

    def test_the_longest_step(self):
        rule = ("every", 7, 2, 1000000)
        self.assertIs(begins(rule, 1000007), True)
        self.assertIs(begins(rule, 1000006), False)
        self.assertIs(begins(rule, 1000008), False)

    def test_far_hours(self):
        rule = ("every", FAR, 2, 7)
        self.assertIs(begins(rule, FAR), True)
        self.assertIs(begins(rule, FAR - 7), False)
        self.assertIs(begins(rule, FAR + 7), True)
        self.assertIs(begins(rule, FAR + 8), False)
        self.assertIs(begins(("every", 5, 2, 10), HUGE + 5), True)
        self.assertIs(begins(("every", 5, 2, 10), HUGE), False)

    def test_a_step_beyond_what_a_rule_has_does_not_fail(self):
        for hour in range(20):
            self.assertIs(begins(("every", 5, 2, 0), hour), hour == 5)

    def test_length(self):
        for length in (1, 2, 48):
            self.assertEqual(length_of(("every", 5, length, 24)), length)


class TestWeek(TestCase):
    def test_all_hours_of_a_year(self):
        week = (0, 1, 2, 3, 4, 5, 6)
        for rule in (("week", (0,), 0, 1), ("week", (6,), 23, 2), ("week", week, 9, 8), ("week", (0, 2, 4), 9, 8)):
            self.check_years(rule, 1)

    def test_each_weekday(self):
        for weekday in range(7):
            rule = ("week", (weekday,), 9, 8)
            told = [hour for hour in range(336) if begins(rule, hour)]
            self.assertEqual(told, [weekday * 24 + 9, (weekday + 7) * 24 + 9])

    def test_all_seven(self):
        rule = ("week", (0, 1, 2, 3, 4, 5, 6), 9, 8)
        told = [hour for hour in range(240) if begins(rule, hour)]
        self.assertEqual(told, [day * 24 + 9 for day in range(10)])

    def test_none_below_0(self):
        self.check_none_below(("week", (0, 1, 2, 3, 4, 5, 6), 0, 1))
        self.check_none_below(("week", (0, 1, 2, 3, 4, 5, 6), 22, 1))

    def test_far_hours(self):
        for far in (10 ** 12, HUGE):
            monday = far - far % 168
            for hour in range(monday - 168, monday + 168):
                due = hour in (monday - 168 + 9, monday + 9)
                self.assertIs(begins(("week", (0,), 9, 8), hour), due)

    def test_length(self):
        for length in (1, 8, 48):
            self.assertEqual(length_of(("week", (0, 2), 9, length)), length)


class TestMonth(TestCase):
    def test_all_hours_of_eight_years(self):
        for day in (1, 31, -1, -31):
            for hour in (0, 23):
                self.check_years(("month", day, hour, 2), 8)

    def test_each_day_number_of_eight_years(self):
        for day in list(range(1, 32)) + list(range(-31, 0)):
            rule = ("month", day, 9, 2)
            due = begins_of(rule, 8)
            for hour in range(9, 8 * 365 * 24, 24):
                self.assertIs(begins(rule, hour), hour in due, (rule, hour))

    def test_the_end_of_month_2(self):
        for year in (0, 4, 4 * HUGE):
            noon = day_of(year, 2, 29) * 24 + 12
            self.assertIs(begins(("month", 29, 12, 1), noon), True)
            self.assertIs(begins(("month", -1, 12, 1), noon), True)
            self.assertIs(begins(("month", -1, 12, 1), noon - 24), False)
        for year in (1, 2, 3, 4 * HUGE + 1):
            noon = day_of(year, 2, 28) * 24 + 12
            self.assertIs(begins(("month", -1, 12, 1), noon), True)
            self.assertIs(begins(("month", 29, 12, 1), noon), False)
            self.assertIs(begins(("month", 29, 12, 1), noon + 24), False)

    def count_in_year(self, day, year):
        first = day_of(year, 1, 1)
        end = day_of(year + 1, 1, 1)
        rule = ("month", day, 12, 1)
        return len([at for at in range(first, end) if begins(rule, at * 24 + 12)])

    def test_months_without_such_a_day_have_none(self):
        for sign in (1, -1):
            self.assertEqual([self.count_in_year(sign * day, 4) for day in (28, 29, 30, 31)], [12, 12, 11, 7])
            for year in (5, 6, 7):
                self.assertEqual([self.count_in_year(sign * day, year) for day in (28, 29, 30, 31)], [12, 11, 11, 7])

    def test_from_the_end(self):
        self.assertIs(begins(("month", -31, 0, 1), 0), True)
        self.assertIs(begins(("month", -30, 0, 1), 0), False)
        self.assertIs(begins(("month", -30, 0, 1), 24), True)
        self.assertIs(begins(("month", -29, 0, 1), day_of(0, 2, 1) * 24), True)
        self.assertIs(begins(("month", -28, 0, 1), day_of(1, 2, 1) * 24), True)

    def test_none_below_0(self):
        self.check_none_below(("month", 1, 0, 1))
        self.check_none_below(("month", -1, 0, 1))
        self.check_none_below(("month", 31, 22, 1))

    def test_far_hours(self):
        for year in (10 ** 8, HUGE):
            hour = day_of(year, 5, 31) * 24 + 7
            for day in (31, -1):
                self.assertIs(begins(("month", day, 7, 1), hour), True)
                for beside in (hour - 24, hour - 1, hour + 1, hour + 24):
                    self.assertIs(begins(("month", day, 7, 1), beside), False)

    def test_length(self):
        for length in (1, 8, 48):
            self.assertEqual(length_of(("month", -1, 9, length)), length)


if __name__ == "__main__":
    unittest.main()
