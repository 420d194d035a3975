"""The marks of a stretch are the hours that a rule begins at and covers."""

import random
import unittest

from freehour.dates import day_of
from freehour.marks import begin_marks, cover_marks
from freehour.rules import begins, covers
from tests.slow_book import random_rule

FAR = 10 ** 12
HUGE = 10 ** 30


def hours_of(marks, low, many):
    """The hours that are marked; none may be marked behind them."""
    assert 0 <= marks < 2 ** many
    return [low + k for k in range(many) if marks >> k & 1]


class TestMarks(unittest.TestCase):
    def check(self, rule, low, many):
        near = range(low, low + many)
        begun = hours_of(begin_marks(rule, low, many), low, many)
        self.assertEqual(begun, [hour for hour in near if begins(rule, hour)], (rule, low, many))
        covered = hours_of(cover_marks(rule, low, many), low, many)
        self.assertEqual(covered, [hour for hour in near if covers(rule, hour)], (rule, low, many))

    def test_many_rules(self):
        chance = random.Random(10)
        for _ in range(1500):
            rule = random_rule(chance)
            self.check(rule, chance.randrange(500), chance.choice([1, 2, 30, 100]))

    def test_a_thousand_hours(self):
        chance = random.Random(11)
        for _ in range(60):
            self.check(random_rule(chance, 2000), chance.choice([0, 1, 700]), 1094)

    def test_each_low_hour_and_each_length(self):
        for length in range(1, 49):
            for low in range(0, 60, 7):
                self.check(("every", 5, length, 50), low, 60)
                self.check(("also", 9, ("once", 30, length)), low, 3)

    def test_each_day_of_the_month(self):
        for day in list(range(1, 32)) + list(range(-31, 0)):
            for low in (0, 27 * 24, 58 * 24, 365 * 24, 1460 * 24 - 5):
                self.check(("month", day, 0, 3), low, 100)
            self.check(("month", day, 23, 1), 300 * 24, 1000)

    def test_each_day_of_the_month_over_the_end_of_a_year(self):
        for year in (0, 1, 2, 3, 4):
            low = day_of(year, 12, 31) * 24 + 5
            for day in (1, 2, 28, 29, 30, 31, -1, -2, -28, -29, -30, -31):
                self.check(("month", day, 6, 3), low, 1094)
                self.check(("month", day, 6, 3), low, 2000)

    def test_far_hours(self):
        rules = [
            ("once", FAR - 1, 48), ("every", 3, 5, 10), ("every", FAR - 1, 2, 1000000), ("week", (0, 6), 22, 8),
            ("month", -1, 20, 48), ("from", FAR - 1, ("every", 0, 1, 1)), ("until", FAR - 1, ("every", 0, 2, 3)),
            ("also", FAR - 1, ("week", (1,), 9, 30)), ("but", (FAR // 24,), ("every", 20, 8, 12)),
        ]
        for rule in rules:
            for low in (FAR - 100, FAR - 1, FAR, FAR + 46, FAR + 47, HUGE):
                self.check(rule, low, 150)
                self.check(rule, low, 1)


if __name__ == "__main__":
    unittest.main()
