"""The first hour from start on, without end."""

import random
import unittest

from freehour.book import Book
from freehour.errors import HourError, TooLong
from tests.slow_book import SlowBook, random_rule

FAR = 10 ** 12 - 1
ALWAYS = ("every", 0, 1, 1)
MONTHLY = ("month", 1, 0, 48)


class TestCase(unittest.TestCase):
    def setUp(self):
        self.book = Book()

    def come(self, name, free, busy=()):
        self.book.come(name, list(free))
        for rule in busy:
            self.book.busy(name, rule)

    def too_long(self, names, hours, start):
        with self.assertRaises(TooLong):
            self.book.ever(names, hours, start)


class TestWalk(TestCase):
    def test_a_round_of_4999_5000_and_5001(self):
        for step, name in ((4999, "ann"), (5000, "bob"), (5001, "mia")):
            self.come(name, [("every", 0, 1, step)])
        # Settled at 0, so from 48 on the walk is as long as the round.
        for start in (48, 49, 100, 4999, 5000, FAR):
            self.assertEqual(self.book.ever(["ann"], 1, start), -(-start // 4999) * 4999)
            self.assertEqual(self.book.ever(["bob"], 1, start), -(-start // 5000) * 5000)
            self.too_long(["mia"], 1, start)
        # One hour ahead of 48 makes it one hour longer.
        self.assertEqual(self.book.ever(["ann"], 1, 47), 4999)
        self.too_long(["ann"], 1, 46)
        self.too_long(["bob"], 1, 47)
        self.too_long(["bob"], 1, 0)

    def test_start_ahead_of_what_is_settled(self):
        self.come("ann", [("once", 4950, 2)])
        # Settled at 4951, so the walk is 1 and 4999 less start.
        self.assertEqual(self.book.ever(["ann"], 1, 0), 4950)
        self.assertEqual(self.book.ever(["ann"], 2, 1), 4950)
        self.assertIsNone(self.book.ever(["ann"], 3, 0))
        self.come("bob", [("once", 4951, 2)])
        self.too_long(["bob"], 1, 0)
        self.assertEqual(self.book.ever(["bob"], 1, 1), 4951)
        self.assertIsNone(self.book.ever(["bob"], 1, 4953))
        self.assertIsNone(self.book.ever(["bob"], 1, FAR))

    def test_each_kind_of_rule_is_settled_from_its_hour(self):
        rules = [
            (("once", 6000, 1), 6001, 1), (("every", 6000, 1, 10), 6000, 10), (("from", 6000, ALWAYS), 6000, 1),
            (("until", 6000, ALWAYS), 6000, 1), (("also", 6000, ALWAYS), 6001, 1), (("but", (3, 249), ALWAYS), 6000, 1),
            (("from", 7, ("also", 6000, ("week", (1,), 0, 1))), 6001, 168),
        ]
        for letter, (rule, settled, by) in zip("abcdefg", rules):
            self.come("free" + letter, [rule])
            self.come("busy" + letter, [ALWAYS], [rule])
            # The walk is by and settled and 48 less start.
            start = by + settled + 48 - 5000
            for name in ("free" + letter, "busy" + letter):
                self.too_long([name], 1, start - 1)
                self.book.ever([name], 1, start)

    def test_the_last_hour_of_a_walk(self):
        self.come("ann", [("every", 0, 1, 5000)])
        self.assertEqual(self.book.ever(["ann"], 1, 5001), 10000)
        self.come("bob", [("every", 5, 3, 4000)])
        self.assertEqual(self.book.ever(["bob"], 3, 4006), 8005)
        self.assertEqual(self.book.ever(["bob"], 3, 4005), 4005)
        self.assertIsNone(self.book.ever(["bob"], 4, 4005))

    def test_too_long_also_where_the_hour_comes_early(self):
        self.come("ann", [ALWAYS, ("every", 0, 1, 5001)])
        self.come("bob", [ALWAYS], [("once", 10 ** 6, 1)])
        self.come("mia", [ALWAYS, MONTHLY])
        for name in ("ann", "bob", "mia"):
            self.assertEqual(self.book.first([name], 1, 0, 10), (0, []))
            self.too_long([name], 1, 0)
        self.assertEqual(self.book.ever(["bob"], 1, 10 ** 6), 10 ** 6 + 1)

    def test_the_refusal_is_taken_as_all_three(self):
        self.come("ann", [MONTHLY])
        for kind in (TooLong, HourError, ValueError):
            with self.assertRaises(kind):
                self.book.ever(["ann"], 1, 0)

    def test_rounds_of_all_rules_together(self):
        self.come("ann", [("every", 0, 9, 70)], [("every", 50, 1, 11)])
        self.come("bob", [("every", 0, 9, 6)])
        self.come("mia", [("every", 0, 9, 13)])
        # 770, and with bob 2310, and with mia 30030.
        self.assertIsNotNone(self.book.ever(["ann"], 1, 5000))
        self.assertIsNotNone(self.book.ever(["ann", "bob"], 1, 5000))
        self.too_long(["ann", "bob", "mia"], 1, 5000)
        self.assertIsNotNone(self.book.ever(["bob", "mia"], 1, 5000))

    def test_very_many_long_rounds(self):
        names = ["a" + letter for letter in "abcdefghijkl"]
        step = 999983
        for name in names:
            rules = [("every", 0, 1, step - 2 * k) for k in range(20)]
            step -= 40
            self.come(name, rules, rules)
        self.too_long(names, 1, 0)


class TestWhoCounts(TestCase):
    def test_a_long_round_of_one_who_is_not_named(self):
        self.come("ann", [ALWAYS])
        self.come("bob", [MONTHLY])
        self.come("mia", [ALWAYS], [("until", FAR, ("every", 5, 1, 10 ** 6))])
        self.assertEqual(self.book.ever(["ann"], 5, 7), 7)
        self.too_long(["bob"], 5, 7)
        self.too_long(["ann", "bob"], 5, 7)
        self.too_long(["mia", "ann"], 5, 7)

    def test_a_meeting_far_off(self):
        self.come("ann", [ALWAYS])
        self.come("bob", [ALWAYS])
        self.book.meet(["ann"], 2, 10000, 20000)
        self.too_long(["ann"], 1, 0)
        self.too_long(["bob", "ann"], 1, 0)
        self.assertEqual(self.book.ever(["bob"], 1, 0), 0)
        # Over at 10002: the walk is 1 and 10050 less start.
        self.too_long(["ann"], 1, 5050)
        self.assertEqual(self.book.ever(["ann"], 1, 5051), 5051)
        self.assertEqual(self.book.ever(["ann"], 1, 10000), 10002)
        self.book.move(1, 9999, 19999)
        self.assertEqual(self.book.ever(["ann"], 1, 5050), 5050)
        self.book.drop(1)
        self.assertEqual(self.book.ever(["ann"], 1, 0), 0)


class TestHours(TestCase):
    def test_nobody_is_free_at_any_hour(self):
        self.come("ann", [])
        self.come("bob", [ALWAYS], [ALWAYS])
        self.come("mia", [("every", 0, 1, 2)])
        self.come("zoe", [("every", 1, 1, 2)])
        for names in (["ann"], ["bob"], ["ann", "bob"], ["mia", "zoe"]):
            for start in (0, 1, 5000, FAR):
                self.assertIsNone(self.book.ever(names, 1, start))
        self.assertEqual(self.book.ever(["mia"], 1, 5), 6)
        self.assertIsNone(self.book.ever(["mia"], 2, 5))

    def test_it_may_be_beyond_what_a_time_is(self):
        self.come("ann", [("every", 0, 48, 4000)])
        due = (FAR // 4000 + 1) * 4000
        self.assertEqual(self.book.ever(["ann"], 48, FAR), due)
        self.assertGreater(due, FAR)

    def test_the_meeting_may_last_beyond_the_walk(self):
        self.come("ann", [("every", 0, 48, 48)])
        self.assertEqual(self.book.ever(["ann"], 48, 3), 3)
        self.come("bob", [("every", 40, 30, 100)])
        self.assertEqual(self.book.ever(["bob"], 30, 41), 140)
        self.assertIsNone(self.book.ever(["bob"], 31, 41))

    def test_nothing_is_taken(self):
        self.come("ann", [("every", 7, 3, 10)])
        for _ in range(3):
            self.assertEqual(self.book.ever(["ann"], 3, 8), 17)
        self.assertEqual(self.book.meetings(), [])
        self.assertIs(self.book.is_free("ann", 17), True)
        self.assertEqual(self.book.meet(["ann"], 3, 8, 50), (1, 17))
        self.assertEqual(self.book.ever(["ann"], 3, 8), 27)

    def test_the_names_handed_in_stay(self):
        self.come("ann", [ALWAYS])
        self.come("bob", [ALWAYS])
        names = ["bob", "ann"]
        self.book.ever(names, 3, 8)
        self.assertEqual(names, ["bob", "ann"])


class TestAgainstASlowWalk(TestCase):
    def test_each_hour(self):
        chance = random.Random(16)
        seen = {"TooLong": 0, "None": 0, "hour": 0}
        for _ in range(300):
            self.setUp()
            slow = SlowBook()
            names = ["ann", "bob"][:chance.randint(1, 2)]
            for name in names:
                free = [random_rule(chance) for _ in range(chance.choice([0, 1, 1, 2]))]
                busy = [random_rule(chance) for _ in range(chance.choice([0, 0, 1]))]
                slow.come(name, free)
                self.come(name, free, busy)
                for rule in busy:
                    slow.busy(name, rule)
            meet = (chance.sample(names, 1), 2, chance.randrange(400), 600)
            self.assertEqual(self.book.meet(*meet), slow.meet(*meet))
            for _ in range(3):
                hours, start = chance.choice([1, 2, 5, 20, 48]), chance.randrange(700)
                due = slow.ever(names, hours, start, 1500)
                seen["hour" if isinstance(due, int) else str(due)] += 1
                if due == "TooLong":
                    self.too_long(names, hours, start)
                else:
                    self.assertEqual(self.book.ever(names, hours, start), due)
        self.assertGreater(min(seen.values()), 50)


if __name__ == "__main__":
    unittest.main()
