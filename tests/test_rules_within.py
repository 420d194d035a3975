"""The rules from, until, also and but, also within one another."""

import itertools
import unittest

from freehour.rules import begins, length_of
from tests.naive import begins_of

EVERY = ("every", 5, 2, 10)
FAR = 10 ** 12 - 1
HUGE = 10 ** 30
PLAIN = [("once", 50, 4), EVERY, ("week", (0, 2), 9, 8), ("month", -1, 9, 8)]


class TestCase(unittest.TestCase):
    def told(self, rule, end=60):
        return [hour for hour in range(-100, end) if begins(rule, hour)]


class TestFrom(TestCase):
    def test_at_its_hour_and_beside_it(self):
        self.assertEqual(self.told(("from", 24, EVERY)), [25, 35, 45, 55])
        self.assertEqual(self.told(("from", 25, EVERY)), [25, 35, 45, 55])
        self.assertEqual(self.told(("from", 26, EVERY)), [35, 45, 55])

    def test_at_hour_0(self):
        self.assertEqual(self.told(("from", 0, ("every", 0, 1, 20))), [0, 20, 40])

    def test_far_hours(self):
        rule = ("from", FAR, ("every", 0, 1, 1))
        self.assertIs(begins(rule, FAR - 1), False)
        self.assertIs(begins(rule, FAR), True)
        self.assertIs(begins(rule, HUGE), True)


class TestUntil(TestCase):
    def test_at_its_hour_and_beside_it(self):
        self.assertEqual(self.told(("until", 24, EVERY)), [5, 15])
        self.assertEqual(self.told(("until", 25, EVERY)), [5, 15])
        self.assertEqual(self.told(("until", 26, EVERY)), [5, 15, 25])

    def test_at_hour_0(self):
        self.assertEqual(self.told(("until", 0, ("every", 0, 1, 1))), [])
        self.assertEqual(self.told(("until", 1, ("every", 0, 1, 1))), [0])

    def test_far_hours(self):
        rule = ("until", FAR, ("every", 0, 1, 1))
        self.assertIs(begins(rule, FAR - 1), True)
        self.assertIs(begins(rule, FAR), False)
        self.assertIs(begins(rule, HUGE), False)


class TestAlso(TestCase):
    def test_at_its_hour_and_beside_it(self):
        self.assertEqual(self.told(("also", 24, EVERY)), [5, 15, 24, 25, 35, 45, 55])
        self.assertEqual(self.told(("also", 26, EVERY)), [5, 15, 25, 26, 35, 45, 55])

    def test_where_the_rule_within_has_a_span(self):
        self.assertEqual(self.told(("also", 25, EVERY)), [5, 15, 25, 35, 45, 55])

    def test_at_hour_0(self):
        self.assertEqual(self.told(("also", 0, ("once", 7, 2))), [0, 7])

    def test_none_below_0_even_if_it_says_so(self):
        self.assertIs(begins(("also", -5, ("once", 7, 2)), -5), False)

    def test_far_hours(self):
        rule = ("also", FAR, ("once", 7, 2))
        self.assertEqual([begins(rule, FAR + k) for k in (-1, 0, 1)], [False, True, False])


class TestBut(TestCase):
    def test_on_the_first_and_the_last_of_its_days(self):
        rule = ("but", (1, 3, 4), ("week", (0, 1, 2, 3, 4, 5, 6), 9, 8))
        self.assertEqual(self.told(rule, 168), [day * 24 + 9 for day in (0, 2, 5, 6)])

    def test_all_hours_of_a_day_and_none_beside_it(self):
        rule = ("but", (1,), ("every", 0, 1, 1))
        self.assertEqual(self.told(rule, 72), list(range(24)) + list(range(48, 72)))

    def test_day_0(self):
        self.assertEqual(self.told(("but", (0,), ("every", 0, 1, 1)), 26), [24, 25])

    def test_the_day_of_the_begin_counts_not_that_of_the_hours_behind(self):
        rule = ("but", (1,), ("once", 23, 48))
        self.assertIs(begins(rule, 23), True)

    def test_twenty_days(self):
        rule = ("but", tuple(range(1, 40, 2)), ("every", 0, 1, 24))
        self.assertEqual(self.told(rule, 44 * 24), [day * 24 for day in list(range(0, 40, 2)) + [40, 41, 42, 43]])

    def test_far_days(self):
        last = 10 ** 11 - 1
        rule = ("but", (3, last), ("every", 0, 1, 1))
        for hour, due in ((-1, True), (0, False), (23, False), (24, True)):
            self.assertIs(begins(rule, last * 24 + hour), due)


class TestWithinOneAnother(TestCase):
    def test_from_and_also(self):
        self.assertEqual(self.told(("from", 20, ("also", 7, EVERY))), [25, 35, 45, 55])
        self.assertEqual(self.told(("also", 7, ("from", 20, EVERY))), [7, 25, 35, 45, 55])

    def test_until_and_also(self):
        self.assertEqual(self.told(("until", 20, ("also", 22, EVERY))), [5, 15])
        self.assertEqual(self.told(("also", 22, ("until", 20, EVERY))), [5, 15, 22])

    def test_but_and_also(self):
        self.assertEqual(self.told(("but", (0,), ("also", 7, EVERY))), [25, 35, 45, 55])
        self.assertEqual(self.told(("also", 7, ("but", (0,), EVERY))), [7, 25, 35, 45, 55])

    def test_from_and_until(self):
        for rule in (("from", 15, ("until", 45, EVERY)), ("until", 45, ("from", 15, EVERY))):
            self.assertEqual(self.told(rule), [15, 25, 35])

    def test_each_order_of_three_and_of_all_four(self):
        arounds = [("from", 40), ("until", 700), ("also", 30), ("but", (0, 2, 30)), ("also", 731), ("from", 50)]
        for many in (1, 2, 3, 4):
            for chosen in itertools.permutations(arounds, many):
                for rule in PLAIN:
                    for word, part in chosen:
                        rule = (word, part, rule)
                    due = begins_of(rule, 1)
                    told = {hour for hour in range(-30, 760) if begins(rule, hour)}
                    self.assertEqual(told, {hour for hour in due if hour < 760}, rule)

    def test_eight_within_one_another(self):
        rule = EVERY
        for word, part in (("also", 7), ("from", 6), ("but", (1,)), ("also", 30), ("until", 50), ("also", 2), ("from", 3)):
            rule = (word, part, rule)
        self.assertEqual(self.told(rule), [7, 15, 30])

    def test_more_than_eight_do_not_fail(self):
        rule = EVERY
        for hour in range(20):
            rule = ("also", hour, rule)
        self.assertEqual(self.told(rule), list(range(20)) + [25, 35, 45, 55])
        self.assertEqual(length_of(rule), 2)


class TestLength(unittest.TestCase):
    def test_it_is_that_of_the_rule_within(self):
        for length in (1, 7, 48):
            plain = [("once", 50, length), ("every", 5, length, 9), ("week", (0, 2), 9, length), ("month", -1, 9, length)]
            for rule in plain:
                for around in (("from", 40), ("until", 700), ("also", 30), ("but", (0, 3))):
                    self.assertEqual(length_of(around + (rule,)), length)
                    self.assertEqual(length_of(("also", 3, around + (rule,))), length)


if __name__ == "__main__":
    unittest.main()
