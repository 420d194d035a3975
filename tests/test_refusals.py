"""What each method refuses, by which class, in which order; behind a refusal all is as it was."""

import copy
import unittest

from freehour import errors
from freehour.book import Book

ALWAYS = ("every", 0, 1, 1)
ONCE = ("once", 5, 2)
TIME_END = 10 ** 12
HUGE = 10 ** 30
NO_WHOLE = (True, False, None, "1", "", "5", (), (1,), [], [1], {}, ALWAYS)
NO_HOURS = NO_WHOLE + (0, -1, 49, 50, HUGE, -HUGE)
NO_TIMES = NO_WHOLE + (-1, -24, TIME_END, TIME_END + 1, HUGE, -HUGE)
NO_NUMBERS = NO_WHOLE + (0, -1, 3, 4, HUGE, -HUGE)
NO_RULES = (None, True, 5, "once 5 2", [], ["once", 5, 2], (), ("once", 5), ("once", True, 2), ("once", 5, 49), (ALWAYS,))


def nine_within():
    rule = ONCE
    for hour in range(8):
        rule = ("also", hour, rule)
    return rule


class TestCase(unittest.TestCase):
    def setUp(self):
        self.book = Book()
        self.book.come("ann", [ALWAYS])
        self.book.come("bob", [("every", 0, 9, 24), ("once", 20, 3)])
        self.book.come("mia", [ALWAYS, ("month", 1, 0, 1)])
        self.book.busy("bob", ("every", 4, 1, 24))
        self.assertEqual(self.book.meet(["ann", "bob"], 3, 0, 50), (1, 0))
        self.assertEqual(self.book.meet(["ann"], 2, 10, 50), (2, 10))
        self.before = self.state()

    def state(self):
        people = self.book.people()
        free = [[hour for hour in range(-2, 60) if self.book.is_free(name, hour)] for name in people]
        return people, self.book.meetings(), free

    def refused(self, kind, action, *parts):
        handed = copy.deepcopy(parts)
        with self.assertRaises(errors.HourError, msg=(action, parts)) as caught:
            getattr(self.book, action)(*parts)
        self.assertIs(type(caught.exception), getattr(errors, kind), (action, parts))
        self.assertIsInstance(caught.exception, ValueError)
        self.assertEqual(parts, handed)
        self.assertEqual(self.state(), self.before)

    def tearDown(self):
        # The next number is the third, whatever was refused.
        self.assertEqual(self.book.meet(["ann"], 1, 40, 50), (3, 40))


class TestCome(TestCase):
    def test_no_name(self):
        for name in ("", "abcdefghijklm", "a" * 1000, "Ann", "aNN", "ann ", " ann", "an n", "ann1", "1", "a-b", "a_b",
                     "\u00e4nn", "\u00df", "\u0430nn", "ann\n", "a,b", "{}", None, True, 5, [], ("zoe",)):
            self.refused("NoName", "come", name, [ALWAYS])
            self.refused("NoName", "come", name, NO_RULES[:1])

    def test_taken(self):
        for name in ("ann", "bob", "mia"):
            for free in ([], [ALWAYS], [None], [ALWAYS] * 21):
                self.refused("Taken", "come", name, free)

    def test_no_rule(self):
        for thing in NO_RULES + (nine_within(),):
            for free in ([thing], [ALWAYS, thing], [thing, ALWAYS], [ONCE] * 19 + [thing], [ONCE] * 20 + [thing]):
                self.refused("NoRule", "come", "zoe", free)
        self.refused("NoRule", "come", "zoe", [ALWAYS] * 21)

    def test_who_was_refused_can_come(self):
        self.refused("NoRule", "come", "zoe", [None])
        self.refused("Stranger", "is_free", "zoe", 5)
        self.book.come("zoe", [nine_within()[2]] * 20)
        self.assertEqual(self.book.people(), ["ann", "bob", "mia", "zoe"])

    def test_names_that_are(self):
        names = ["a", "z", "abcdefghijkl", "mnopqrstuvwx", "yz"]
        for name in names:
            self.assertIsNone(self.book.come(name, []))
        self.assertEqual(self.book.people()[3:], names)


class TestBusy(TestCase):
    def test_stranger(self):
        for name in ("zoe", "", "Ann", "ann ", "an", "annn", None, True, 0, [], ("ann",)):
            self.refused("Stranger", "busy", name, ONCE)
            self.refused("Stranger", "busy", name, None)

    def test_no_rule(self):
        for thing in NO_RULES + (nine_within(),):
            for name in ("ann", "bob", "mia"):
                self.refused("NoRule", "busy", name, thing)

    def test_clash(self):
        for rule in (ALWAYS, ("once", 0, 1), ("once", 2, 1), ("week", (0,), 1, 1), ("also", 2, ("once", 700, 1))):
            self.refused("Clash", "busy", "ann", rule)
            self.refused("Clash", "busy", "bob", rule)
        self.refused("Clash", "busy", "ann", ("once", 11, 1))
        self.assertIsNone(self.book.busy("bob", ("once", 11, 1)))

    def test_the_twenty_first_ahead_of_a_clash(self):
        for _ in range(20):
            self.book.busy("ann", ("once", 58, 1))
        self.before = self.state()
        self.refused("NoRule", "busy", "ann", ("once", 0, 1))
        self.refused("NoRule", "busy", "ann", ("once", 58, 1))
        self.refused("NoRule", "busy", "ann", None)
        self.refused("Clash", "busy", "bob", ("once", 0, 1))


class TestIsFree(TestCase):
    def test_stranger(self):
        for name in ("zoe", "", "Ann", "ann ", None, True, 0, [], ("ann",)):
            for hour in (5, -5, 0, HUGE):
                self.refused("Stranger", "is_free", name, hour)


class TestNames(TestCase):
    """first, meet and ever refuse the same names, ahead of anything else."""

    def asked(self, kind, names, hours, start, end):
        self.refused(kind, "first", names, hours, start, end)
        self.refused(kind, "meet", names, hours, start, end)
        self.refused(kind, "ever", names, hours, start)

    def test_stranger(self):
        for names in ([], ["zoe"], ["ann", "zoe"], ["zoe", "ann"], [""], ["Ann"], [None], [True], [[]], [["ann"]], [("ann",)]):
            self.asked("Stranger", names, 2, 0, 50)
            for wrong in (0, None, True):
                self.asked("Stranger", names, wrong, wrong, wrong)

    def test_twice(self):
        for names in (["ann", "ann"], ["ann", "bob", "ann"], ["bob", "ann", "ann"], ["mia"] * 20):
            self.asked("Twice", names, 2, 0, 50)
            for wrong in (-1, None, True):
                self.asked("Twice", names, wrong, wrong, wrong)

    def test_stranger_ahead_of_twice(self):
        for names in (["ann", "ann", "zoe"], ["zoe", "zoe"], ["zoe", "ann", "ann"]):
            self.asked("Stranger", names, 2, 0, 50)

    def test_no_hours(self):
        for hours in NO_HOURS:
            self.asked("NoTime", ["ann"], hours, 0, 50)
            self.asked("NoTime", ["bob", "ann"], hours, -1, None)

    def test_no_start(self):
        for start in NO_TIMES:
            self.asked("NoTime", ["ann"], 2, start, 50)
            self.asked("NoTime", ["ann"], 2, start, start)

    def test_too_long_comes_last(self):
        self.refused("TooLong", "ever", ["mia"], 2, 0)
        self.refused("TooLong", "ever", ["ann", "mia"], 1, TIME_END - 1)
        for wrong in NO_HOURS:
            self.refused("NoTime", "ever", ["mia"], wrong, 0)
        for wrong in NO_TIMES:
            self.refused("NoTime", "ever", ["mia"], 2, wrong)
        self.refused("Twice", "ever", ["mia", "mia"], 2, 0)
        self.refused("Stranger", "ever", ["mia", "zoe"], 2, 0)


class TestStretch(TestCase):
    def asked(self, start, end):
        self.refused("NoTime", "first", ["ann"], 2, start, end)
        self.refused("NoTime", "meet", ["ann", "bob"], 2, start, end)
        self.refused("NoTime", "move", 1, start, end)
        self.refused("NoTime", "move", 2, start, end)

    def test_no_times(self):
        for wrong in NO_TIMES:
            self.asked(wrong, 50)
            self.asked(0, wrong)
            self.asked(wrong, wrong)

    def test_end_ahead_of_start_or_too_far(self):
        for start, end in ((1, 0), (50, 49), (0, 10001), (5, 10006), (TIME_END - 1, TIME_END - 2), (0, TIME_END - 1),
                           (TIME_END - 10, TIME_END), (TIME_END - 1, TIME_END)):
            self.asked(start, end)

    def test_the_longest_ones_and_those_of_no_hour_are_not_refused(self):
        for start, end in ((0, 10000), (5, 10005), (TIME_END - 10001, TIME_END - 1)):
            self.assertIsNotNone(self.book.first(["ann"], 48, start, end)[0])
        for start in (0, 5, TIME_END - 1):
            self.assertEqual(self.book.first(["ann"], 48, start, start), (None, []))
            self.assertIsNone(self.book.meet(["ann"], 48, start, start))
            self.assertIsNone(self.book.move(1, start, start))


class TestNumbers(TestCase):
    def test_no_meeting(self):
        for number in NO_NUMBERS:
            self.refused("NoMeeting", "drop", number)
            self.refused("NoMeeting", "move", number, 0, 50)

    def test_no_meeting_ahead_of_no_time(self):
        for number in NO_NUMBERS:
            for start, end in ((-1, 50), (None, None), (50, 0), (True, 50)):
                self.refused("NoMeeting", "move", number, start, end)

    def test_one_that_was_dropped(self):
        self.book.drop(2)
        self.before = self.state()
        self.refused("NoMeeting", "drop", 2)
        self.refused("NoMeeting", "move", 2, 0, 50)
        self.refused("NoMeeting", "move", 2, None, 50)
        self.book.drop(1)
        self.before = self.state()
        for number in (True, False, 0, 1, 2, 3):
            self.refused("NoMeeting", "drop", number)

    def test_none_at_all(self):
        book = Book()
        for number in NO_NUMBERS + (1, 2):
            with self.assertRaises(errors.NoMeeting):
                book.drop(number)
            with self.assertRaises(errors.NoMeeting):
                book.move(number, 0, 5)


if __name__ == "__main__":
    unittest.main()
