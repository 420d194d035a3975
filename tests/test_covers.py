"""Which hours are covered, and the list of begins in a stretch."""

import unittest

from freehour.rules import begins, covers, starts
from tests.naive import begins_of

FAR = 10 ** 12
RULES = [
    ("once", 0, 1),
    ("once", 30, 5),
    ("every", 5, 3, 10),
    ("every", 5, 48, 7),
    ("week", (0, 2, 6), 22, 8),
    ("month", -1, 20, 48),
    ("from", 40, ("every", 5, 12, 17)),
    ("until", 41, ("every", 5, 12, 17)),
    ("also", 9, ("week", (1,), 9, 30)),
    ("but", (1, 2), ("every", 20, 8, 12)),
]


class TestCovers(unittest.TestCase):
    def told(self, rule, end):
        return [hour for hour in range(-100, end) if covers(rule, hour)]

    def test_begin_last_hour_and_behind(self):
        self.assertEqual(self.told(("once", 30, 5), 100), [30, 31, 32, 33, 34])
        self.assertEqual(self.told(("once", 30, 1), 100), [30])
        self.assertEqual(self.told(("once", 30, 48), 100), list(range(30, 78)))

    def test_true_and_false_are_told(self):
        self.assertIs(covers(("once", 30, 5), 34), True)
        self.assertIs(covers(("once", 30, 5), 35), False)

    def test_spans_that_come_again(self):
        self.assertEqual(self.told(("every", 5, 3, 10), 30), [5, 6, 7, 15, 16, 17, 25, 26, 27])

    def test_spans_that_touch_and_overlap(self):
        self.assertEqual(self.told(("every", 5, 10, 10), 60), list(range(5, 60)))
        self.assertEqual(self.told(("every", 5, 48, 10), 60), list(range(5, 60)))
        self.assertEqual(self.told(("also", 32, ("once", 30, 5)), 60), list(range(30, 37)))
        self.assertEqual(self.told(("also", 35, ("once", 30, 5)), 60), list(range(30, 40)))

    def test_a_span_lasts_beyond_what_cuts_the_begins(self):
        self.assertEqual(self.told(("until", 31, ("once", 30, 5)), 60), [30, 31, 32, 33, 34])
        self.assertEqual(self.told(("from", 31, ("once", 30, 5)), 60), [])
        self.assertEqual(self.told(("but", (1,), ("once", 23, 5)), 60), [23, 24, 25, 26, 27])
        self.assertEqual(self.told(("but", (0,), ("once", 23, 5)), 60), [])

    def test_hours_below_0(self):
        for rule in RULES + [("every", 0, 48, 1), ("week", (0, 1, 2, 3, 4, 5, 6), 20, 48)]:
            for hour in (-1, -2, -24, -47, -48, -168, -FAR, -10 ** 30):
                self.assertIs(covers(rule, hour), False, (rule, hour))

    def test_no_span_reaches_over_from_below_0(self):
        self.assertEqual(self.told(("week", (0, 6), 22, 8), 40), list(range(22, 30)))
        self.assertEqual(self.told(("month", -1, 20, 48), 40), [])
        self.assertEqual(self.told(("once", -2, 5), 40), [])

    def test_each_hour_of_months(self):
        for rule in RULES:
            due = {hour + k for hour in begins_of(rule, 1) for k in range(self.length(rule))}
            self.assertEqual(set(self.told(rule, 2000)), {hour for hour in due if hour < 2000}, rule)

    def length(self, rule):
        places = {"once": 2, "every": 2, "week": 3, "month": 3}
        return rule[places[rule[0]]] if rule[0] in places else self.length(rule[2])

    def test_far_hours(self):
        rule = ("once", FAR - 1, 48)
        self.assertEqual([covers(rule, FAR + k) for k in (-2, -1, 46, 47)], [False, True, True, False])
        self.assertIs(covers(("every", 3, 5, 10), 10 ** 30 + 7), True)
        self.assertIs(covers(("every", 3, 5, 10), 10 ** 30 + 8), False)


class TestStarts(unittest.TestCase):
    def test_end_at_start_below_it_and_one_above(self):
        rule = ("every", 0, 1, 1)
        for start in (0, 1, 77, FAR - 600):
            self.assertEqual(starts(rule, start, start), [])
            self.assertEqual(starts(rule, start, start + 1), [start])
            if start > 0:
                self.assertEqual(starts(rule, start, start - 1), [])
                self.assertEqual(starts(rule, start, 0), [])

    def test_begins_at_the_bounds(self):
        rule = ("every", 5, 3, 10)
        self.assertEqual(starts(rule, 5, 25), [5, 15])
        self.assertEqual(starts(rule, 6, 26), [15, 25])
        self.assertEqual(starts(rule, 4, 5), [])

    def test_it_tells_begins_not_what_is_covered(self):
        self.assertEqual(starts(("once", 30, 48), 31, 100), [])
        self.assertEqual(starts(("once", 30, 48), 0, 100), [30])

    def test_an_hour_stands_once(self):
        self.assertEqual(starts(("also", 25, ("also", 25, ("every", 5, 3, 10))), 0, 40), [5, 15, 25, 35])

    def test_rising_also_where_also_comes_late(self):
        self.assertEqual(starts(("also", 7, ("every", 5, 3, 10)), 0, 30), [5, 7, 15, 25])
        self.assertEqual(starts(("also", 2, ("every", 5, 3, 10)), 0, 30), [2, 5, 15, 25])

    def test_five_hundred_hours(self):
        for rule in RULES:
            due = sorted(begins_of(rule, 1))
            for start in (0, 1, 40, 300, 1000):
                told = starts(rule, start, start + 500)
                self.assertIs(type(told), list)
                self.assertEqual(told, [hour for hour in due if start <= hour < start + 500], rule)

    def test_near_the_highest_time(self):
        start, end = FAR - 501, FAR - 1
        self.assertEqual(starts(("every", 0, 1, 1), start, end), list(range(start, end)))
        for rule in RULES + [("once", FAR - 1, 2), ("once", FAR - 2, 2), ("once", FAR - 501, 2)]:
            due = [hour for hour in range(start, end) if begins(rule, hour)]
            self.assertEqual(starts(rule, start, end), due)
        self.assertEqual(starts(("once", FAR - 2, 2), start, end), [FAR - 2])
        self.assertEqual(starts(("once", FAR - 1, 2), start, end), [])

    def test_the_list_is_the_askers_own(self):
        rule = ("every", 5, 3, 10)
        told = starts(rule, 0, 30)
        told.append(99)
        told[0] = 77
        self.assertEqual(starts(rule, 0, 30), [5, 15, 25])
        self.assertEqual(rule, ("every", 5, 3, 10))


if __name__ == "__main__":
    unittest.main()
