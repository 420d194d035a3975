"""The first hour of a stretch that all have free, and why it is no earlier one."""

import random
import unittest

from freehour.book import Book
from tests.slow_book import SlowBook, check_rows, random_rule

FAR = 10 ** 12 - 1
ALWAYS = ("every", 0, 1, 1)


class TestCase(unittest.TestCase):
    def setUp(self):
        self.book = Book()
        self.slow = SlowBook()

    def come(self, name, free, busy=()):
        self.book.come(name, list(free))
        self.slow.come(name, free)
        for rule in busy:
            self.book.busy(name, rule)
            self.slow.busy(name, rule)

    def check(self, names, hours, start, end):
        """Ask twice, compare with a walk of every hour, and tell the hour."""
        told = self.book.first(names, hours, start, end)
        self.assertEqual(told[0], self.slow.first(names, hours, start, end), (names, hours, start, end))
        check_rows(self, self.slow, (names, hours, start, end), told)
        self.assertEqual(self.book.first(names, hours, start, end), told)
        return told[0]


class TestOne(TestCase):
    def test_an_hour_that_is_free(self):
        self.come("ann", [("once", 30, 5)])
        for hours in (1, 2, 3, 4, 5):
            self.assertEqual(self.check(["ann"], hours, 0, 100), 30)
        for hours in (6, 7, 48):
            self.assertIsNone(self.check(["ann"], hours, 0, 100))

    def test_the_rows_of_one_hour(self):
        self.come("ann", [("once", 2, 5)])
        self.assertEqual(self.book.first(["ann"], 1, 0, 100), (2, [(0, 0, "ann", 0), (1, 1, "ann", 1)]))
        self.assertEqual(self.book.first(["ann"], 1, 2, 100), (2, []))

    def test_start_within_what_is_free(self):
        self.come("ann", [("every", 30, 5, 10)])
        self.assertEqual(self.check(["ann"], 3, 31, 100), 31)
        self.assertEqual(self.check(["ann"], 3, 32, 100), 32)
        self.assertEqual(self.check(["ann"], 3, 33, 100), 40)
        self.assertEqual(self.check(["ann"], 1, 34, 100), 34)
        self.assertEqual(self.check(["ann"], 1, 35, 100), 40)

    def test_it_is_over_at_the_end_or_ahead(self):
        self.come("ann", [("once", 30, 5)])
        self.assertEqual(self.check(["ann"], 5, 0, 35), 30)
        self.assertIsNone(self.check(["ann"], 5, 0, 34))
        self.assertEqual(self.check(["ann"], 5, 30, 35), 30)
        self.assertIsNone(self.check(["ann"], 5, 31, 35))
        self.assertIsNone(self.check(["ann"], 1, 0, 30))
        self.assertEqual(self.check(["ann"], 1, 0, 31), 30)

    def test_a_stretch_as_long_as_the_meeting_one_shorter_and_of_none(self):
        self.come("ann", [ALWAYS], [("once", 60, 1)])
        for hours in (1, 2, 5, 47, 48):
            for start in (0, 1, 7, 1000, 2000):
                for more in (0, 1):
                    self.check(["ann"], hours, start, start + hours + more)
                self.assertEqual(self.book.first(["ann"], hours, start, start + hours - 1), (None, []))
                self.assertEqual(self.book.first(["ann"], hours, start, start), (None, []))

    def test_never_free(self):
        self.come("ann", [])
        self.come("bob", [ALWAYS], [ALWAYS])
        for name in ("ann", "bob"):
            for hours in (1, 2, 48):
                self.assertIsNone(self.check([name], hours, 0, 300))
                self.assertIsNone(self.check([name], hours, 77, 77 + hours))

    def test_start_0_and_a_span_over_the_whole(self):
        self.come("ann", [("once", 0, 48)])
        self.assertEqual(self.check(["ann"], 48, 0, 48), 0)
        self.assertEqual(self.check(["ann"], 48, 0, 10000), 0)
        self.assertIsNone(self.check(["ann"], 48, 1, 10001))

    def test_spans_that_touch_make_one(self):
        self.come("ann", [("once", 10, 5), ("once", 15, 5), ("once", 21, 30)])
        self.assertEqual(self.check(["ann"], 10, 0, 100), 10)
        self.assertEqual(self.check(["ann"], 11, 0, 100), 21)

    def test_forty_eight_hours(self):
        self.come("ann", [ALWAYS], [("every", 48, 1, 48), ("until", 500, ("every", 20, 1, 24))])
        self.assertIsNone(self.check(["ann"], 48, 0, 1500))
        self.assertEqual(self.check(["ann"], 47, 0, 1500), 481)
        self.come("bob", [ALWAYS], [("every", 48, 1, 49)])
        self.assertEqual(self.check(["bob"], 48, 0, 1500), 0)
        self.assertEqual(self.check(["bob"], 48, 1, 1500), 49)

    def test_meetings_are_in_the_way(self):
        self.come("ann", [("every", 0, 8, 24)])
        for due in (0, 3, 24, 27, 48):
            self.assertEqual(self.check(["ann"], 3, 0, 100), due)
            self.assertEqual(self.book.meet(["ann"], 3, 0, 100)[1], self.slow.meet(["ann"], 3, 0, 100)[1])
        self.assertEqual(self.check(["ann"], 2, 0, 100), 6)


class TestSeveral(TestCase):
    def test_all_at_once(self):
        self.come("ann", [("once", 10, 10)])
        self.come("bob", [("once", 15, 10)])
        self.come("mia", [("once", 5, 13)])
        self.assertEqual(self.check(["ann", "bob"], 5, 0, 100), 15)
        self.assertEqual(self.check(["bob", "ann"], 5, 0, 100), 15)
        self.assertIsNone(self.check(["ann", "bob"], 6, 0, 100))
        self.assertEqual(self.check(["mia", "bob", "ann"], 3, 0, 100), 15)
        self.assertIsNone(self.check(["mia", "bob", "ann"], 4, 0, 100))
        self.assertEqual(self.check(["mia", "ann"], 4, 0, 100), 10)

    def test_each_row_names_one_who_is_not_free(self):
        self.come("ann", [("from", 3, ALWAYS)])
        self.come("bob", [ALWAYS], [("once", 5, 1)])
        rows = [(0, 0, "ann", 0), (1, 1, "ann", 1), (2, 2, "ann", 2)]
        self.assertEqual(self.book.first(["ann", "bob"], 1, 0, 9), (3, rows))
        self.assertEqual(self.book.first(["ann", "bob"], 1, 5, 9), (6, [(5, 5, "bob", 5)]))
        self.assertEqual(self.check(["ann", "bob"], 3, 0, 9), 6)

    def test_who_is_not_named_does_not_count(self):
        self.come("ann", [ALWAYS])
        self.come("bob", [])
        self.assertEqual(self.check(["ann"], 2, 7, 20), 7)
        self.assertIsNone(self.check(["ann", "bob"], 2, 7, 20))

    def test_against_a_slow_walk(self):
        chance = random.Random(14)
        for _ in range(250):
            self.setUp()
            names = chance.sample(["ann", "bob", "mia", "zoe", "kim"], chance.randint(1, 5))
            for name in names:
                free = [random_rule(chance) for _ in range(chance.choice([1, 2, 4]))]
                if chance.random() < 0.5:
                    free.append(ALWAYS)
                self.come(name, free, [random_rule(chance) for _ in range(chance.choice([0, 1, 2]))])
            for _ in range(6):
                asked = chance.sample(names, chance.randint(1, len(names)))
                hours = chance.choice([1, 1, 2, 3, 5, 12, 24, 47, 48])
                start = chance.choice([0, 0, chance.randrange(600)])
                end = start + chance.choice([0, hours - 1, hours, hours + 1, 50, 200, 500, 1500])
                hour = self.check(asked, hours, start, end)
                self.assertEqual(self.check(asked[::-1], hours, start, end), hour)
                if hour is not None and chance.random() < 0.5:
                    self.assertEqual(self.book.meet(asked, hours, start, end), self.slow.meet(asked, hours, start, end))


class TestLongStretches(TestCase):
    def test_the_hour_at_the_end_of_ten_thousand(self):
        self.come("ann", [("from", 9990, ("every", 0, 1, 1))])
        told = self.book.first(["ann"], 10, 0, 10000)
        self.assertEqual(told[0], 9990)
        self.assertEqual(told[1][0][0], 0)
        self.assertEqual(told[1][-1][1], 9989)
        for hours, due in ((9, 9990), (10, 9990), (11, None)):
            self.check_far(["ann"], hours, 0, 10000, due)
        self.check_far(["ann"], 10, 0, 9999, None)

    def check_far(self, names, hours, start, end, due):
        """As check, for hours that the slow book doesn't know."""
        hour, rows = self.book.first(names, hours, start, end)
        self.assertEqual(hour, due)
        at = start
        for first, last, name, busy in rows:
            self.assertEqual(first, at)
            self.assertTrue(first <= last <= busy < first + hours)
            self.assertIn(name, names)
            self.assertIs(self.book.is_free(name, busy), False)
            at = last + 1
        self.assertEqual(at, max(start, end - hours + 1) if due is None else due)

    def test_none_in_ten_thousand(self):
        self.come("ann", [("every", 0, 1, 2)])
        self.come("bob", [("every", 1, 1, 2)])
        self.check_far(["ann", "bob"], 1, 0, 10000, None)
        self.assertEqual(len(self.book.first(["ann", "bob"], 1, 0, 10000)[1]), 10000)
        for hours in (2, 3, 48):
            self.check_far(["ann"], hours, 0, 10000, None)
            self.check_far(["ann", "bob"], hours, 7, 10007, None)

    def test_each_hour_beside_a_thousand(self):
        for hours in (1, 2, 48):
            for due in list(range(940, 1060)) + list(range(1990, 2010)) + [3000, 5000, 9000]:
                self.setUp()
                self.come("ann", [("from", due, ALWAYS)])
                self.check_far(["ann"], hours, 0, due + hours, due)
                self.check_far(["ann"], hours, 0, due + hours - 1, None)

    def test_near_the_highest_time(self):
        self.come("ann", [("once", FAR - 3, 48)])
        self.come("bob", [ALWAYS])
        self.check_far(["ann"], 3, FAR - 10000, FAR, FAR - 3)
        self.check_far(["ann"], 4, FAR - 10000, FAR, None)
        self.check_far(["bob", "ann"], 1, FAR - 10, FAR, FAR - 3)
        self.check_far(["bob"], 1, FAR - 1, FAR, FAR - 1)
        self.assertEqual(self.book.first(["bob"], 1, FAR, FAR), (None, []))
        self.check_far(["bob"], 48, FAR - 48, FAR, FAR - 48)
        self.assertEqual(self.book.first(["bob"], 48, FAR - 47, FAR), (None, []))


class TestNothingIsTaken(TestCase):
    def test_by_asking(self):
        self.come("ann", [ALWAYS])
        for _ in range(3):
            self.assertEqual(self.book.first(["ann"], 2, 5, 50), (5, []))
        self.assertEqual(self.book.meetings(), [])
        self.assertIs(self.book.is_free("ann", 5), True)
        self.assertEqual(self.book.meet(["ann"], 2, 5, 50), (1, 5))

    def test_the_names_handed_in_stay(self):
        self.come("ann", [("once", 7, 9)])
        self.come("bob", [ALWAYS])
        names = ["bob", "ann"]
        told = self.book.first(names, 1, 6, 50)
        self.assertEqual(names, ["bob", "ann"])
        names.clear()
        self.assertEqual(told, (7, [(6, 6, "ann", 6)]))

    def test_the_rows_told_are_the_askers_own(self):
        self.come("ann", [("once", 7, 9)])
        told = self.book.first(["ann"], 1, 5, 50)
        due = (7, [(5, 5, "ann", 5), (6, 6, "ann", 6)])
        self.assertEqual(told, due)
        told[1].clear()
        self.assertEqual(self.book.first(["ann"], 1, 5, 50), due)


if __name__ == "__main__":
    unittest.main()
