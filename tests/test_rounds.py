"""How rules come round, and from which hour on they are settled."""

import random
import unittest

from freehour.rounds import round_of, settled
from freehour.rules import begins, covers
from tests.slow_book import random_rule, slow_round, slow_settled

LAST_TIME = 10 ** 12 - 1
LAST_DAY = 10 ** 11 - 1
PLAIN = [
    (("once", 0, 2), 1, 1),
    (("once", 5, 48), 1, 6),
    (("once", LAST_TIME, 1), 1, LAST_TIME + 1),
    (("every", 0, 2, 1), 1, 0),
    (("every", 5, 2, 24), 24, 5),
    (("every", LAST_TIME, 48, 1000000), 1000000, LAST_TIME),
    (("week", (0, 2), 9, 8), 168, 0),
    (("week", (0, 1, 2, 3, 4, 5, 6), 0, 48), 168, 0),
    (("month", 1, 0, 8), 35064, 0),
    (("month", -31, 23, 8), 35064, 0),
]


class TestPlain(unittest.TestCase):
    def test_rounds(self):
        for rule, due, _ in PLAIN:
            self.assertEqual(round_of(rule), due)

    def test_settled(self):
        for rule, _, due in PLAIN:
            self.assertEqual(settled(rule), due)


class TestAround(unittest.TestCase):
    def test_rounds_are_those_of_the_rule_within(self):
        for rule, due, _ in PLAIN:
            for around in (("from", 40), ("until", 0), ("also", LAST_TIME), ("but", (0, 3))):
                self.assertEqual(round_of(around + (rule,)), due)
                self.assertEqual(round_of(("but", (5,), around + (rule,))), due)

    def test_the_greater_hour(self):
        for rule, _, within in PLAIN:
            for hour in (0, 1, 4, 5, 6, 7, 100, LAST_TIME - 1, LAST_TIME):
                self.assertEqual(settled(("from", hour, rule)), max(hour, within))
                self.assertEqual(settled(("until", hour, rule)), max(hour, within))
                self.assertEqual(settled(("also", hour, rule)), max(hour + 1, within))

    def test_behind_the_last_day(self):
        for rule, _, within in PLAIN:
            self.assertEqual(settled(("but", (0,), rule)), max(24, within))
            self.assertEqual(settled(("but", (0, 3), rule)), max(96, within))
            self.assertEqual(settled(("but", (LAST_DAY,), rule)), max((LAST_DAY + 1) * 24, within))

    def test_within_one_another(self):
        rule = ("every", 50, 2, 10)
        self.assertEqual(settled(("from", 40, ("until", 60, rule))), 60)
        self.assertEqual(settled(("until", 60, ("from", 40, rule))), 60)
        self.assertEqual(settled(("from", 60, ("also", 60, rule))), 61)
        self.assertEqual(settled(("but", (1,), ("also", 47, rule))), 50)
        self.assertEqual(settled(("but", (1,), ("also", 47, ("every", 0, 2, 10)))), 48)
        self.assertEqual(settled(("but", (2,), ("also", 72, rule))), 73)
        self.assertEqual(settled(("from", 9, ("from", 9, ("from", 9, rule)))), 50)

    def test_many_rules(self):
        chance = random.Random(8)
        for _ in range(3000):
            rule = random_rule(chance, chance.choice([100, 10 ** 6]))
            self.assertEqual(round_of(rule), slow_round(rule), rule)
            self.assertEqual(settled(rule), slow_settled(rule), rule)

    def test_more_than_eight_and_no_days_do_not_fail(self):
        rule = ("once", 5, 2)
        for hour in range(20):
            rule = ("also", hour, rule)
        self.assertEqual((round_of(rule), settled(rule)), (1, 20))
        self.assertEqual((round_of(("but", (), rule)), settled(("but", (), rule))), (1, 20))


class TestTheyComeRound(unittest.TestCase):
    def check(self, rule, step):
        by, low = round_of(rule), settled(rule)
        for hour in list(range(low, low + 800)) + list(range(low, low + 40000, step)):
            self.assertIs(begins(rule, hour), begins(rule, hour + by), (rule, hour))
            if hour >= low + 47:
                self.assertIs(covers(rule, hour), covers(rule, hour + by), (rule, hour))

    def test_of_plain_rules(self):
        for rule, _, _ in PLAIN:
            self.check(rule, 101)

    def test_of_rules_within_one_another(self):
        chance = random.Random(9)
        for _ in range(40):
            self.check(random_rule(chance), 997)


if __name__ == "__main__":
    unittest.main()
