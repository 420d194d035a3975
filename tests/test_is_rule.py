"""What is a rule and what is none."""

import copy
import unittest

from freehour.rules import is_rule

ONCE = ("once", 5, 2)
EVERY = ("every", 5, 2, 24)
WEEK = ("week", (0, 2, 4), 9, 8)
MONTH = ("month", -1, 9, 8)
PLAIN = [ONCE, EVERY, WEEK, MONTH]
AROUND = [("from", 100, ONCE), ("until", 100, EVERY), ("also", 100, WEEK), ("but", (3, 70), MONTH)]
LAST_TIME = 10 ** 12 - 1
LAST_DAY = 10 ** 11 - 1
NO_NUMBERS = (True, False, None, "5", "", (5,), [5], (), [])


class TestCase(unittest.TestCase):
    def yes(self, thing):
        self.assertIs(is_rule(thing), True, thing)

    def no(self, thing):
        self.assertIs(is_rule(thing), False, thing)

    def check_number(self, rule, at, low, high):
        """The number at that place of the rule goes from low to high, both counted."""
        def put(thing):
            return rule[:at] + (thing,) + rule[at + 1:]
        for number in (low, low + 1, high - 1, high):
            self.yes(put(number))
        for number in (low - 1, low - 100, high + 1, high + 100, 10 ** 30, -10 ** 30):
            self.no(put(number))
        for thing in NO_NUMBERS:
            self.no(put(thing))


class TestNumbers(TestCase):
    def test_rules_that_are(self):
        for rule in PLAIN + AROUND:
            self.yes(rule)

    def test_once(self):
        self.check_number(ONCE, 1, 0, LAST_TIME)
        self.check_number(ONCE, 2, 1, 48)

    def test_every(self):
        self.check_number(EVERY, 1, 0, LAST_TIME)
        self.check_number(EVERY, 2, 1, 48)
        self.check_number(EVERY, 3, 1, 1000000)

    def test_week(self):
        self.check_number(WEEK, 2, 0, 23)
        self.check_number(WEEK, 3, 1, 48)

    def test_month(self):
        self.check_number(MONTH, 2, 0, 23)
        self.check_number(MONTH, 3, 1, 48)

    def test_day_of_month(self):
        for day in range(1, 32):
            self.yes(("month", day, 9, 8))
            self.yes(("month", -day, 9, 8))
        for day in (0, 32, 33, -32, -33, 10 ** 30, -10 ** 30) + NO_NUMBERS:
            self.no(("month", day, 9, 8))

    def test_from_until_also(self):
        for word in ("from", "until", "also"):
            self.check_number((word, 100, ONCE), 1, 0, LAST_TIME)


class TestDays(TestCase):
    def test_weekdays(self):
        for days in ((0,), (6,), (0, 6), (5, 6), (0, 1, 2, 3, 4, 5), (0, 1, 2, 3, 4, 5, 6)):
            self.yes(("week", days, 9, 8))

    def test_no_weekdays(self):
        for days in ((), (7,), (-1,), (0, 7), (-1, 0), (0, 1, 2, 3, 4, 5, 6, 7), (0, 0), (2, 1), (0, 2, 1), (0, 1, 1)):
            self.no(("week", days, 9, 8))
        self.no(("week", (0, 1, 2, 3, 4, 5, 6, 6), 9, 8))

    def test_days_of_but(self):
        for days in ((0,), (LAST_DAY,), (0, LAST_DAY), (3, 70), tuple(range(19)), tuple(range(20))):
            self.yes(("but", days, ONCE))

    def test_no_days_of_but(self):
        for days in ((), (-1,), (-1, 3), (LAST_DAY + 1,), (3, LAST_DAY + 1), (3, 3), (4, 3), (1, 5, 4), tuple(range(21))):
            self.no(("but", days, ONCE))

    def test_what_is_no_whole_number_among_the_days(self):
        for thing in NO_NUMBERS:
            for days in ((thing,), (0, thing), (thing, 5), (0, thing, 5)):
                self.no(("week", days, 9, 8))
                self.no(("but", days, ONCE))

    def test_what_is_no_tuple_of_days(self):
        for days in ([0, 2, 4], [0], [], 3, True, False, None, "0,2,4", "", ((0, 2, 4),), ([0, 2, 4],)):
            self.no(("week", days, 9, 8))
            self.no(("but", days, ONCE))


class TestForm(TestCase):
    def test_lists_for_tuples(self):
        for rule in PLAIN + AROUND:
            self.no(list(rule))
            for word in ("from", "until", "also"):
                self.no((word, 3, list(rule)))
            self.no(("but", (3,), list(rule)))
            self.no(("from", 3, ("also", 4, list(rule))))

    def test_too_many_and_too_few_parts(self):
        for rule in PLAIN + AROUND:
            for end in range(len(rule)):
                self.no(rule[:end])
            for more in (1, 0, None, True, "once", (), ONCE):
                self.no(rule + (more,))
            self.no(("from", 3, rule + (1,)))
            self.no(("from", 3, rule[:-1]))

    def test_other_first_words(self):
        for rule in PLAIN + AROUND:
            for word in ("", "Once", "ONCE", "once ", " once", "one", "year", "day", "weeks", "every 5", "or"):
                self.no((word,) + rule[1:])

    def test_the_word_of_another_rule(self):
        for word in ("every", "week", "month"):
            self.no((word, 5, 2))
        self.no(("once", 5, 2, 24))
        self.no(("week", 5, 2, 24))
        self.no(("every", (0, 2, 4), 9, 8))
        self.no(("month", (0, 2, 4), 9, 8))
        self.no(("once", 5, ONCE))
        self.no(("from", (3, 70), ONCE))
        self.no(("but", 100, ONCE))

    def test_first_parts_that_are_no_text(self):
        for rule in PLAIN + AROUND:
            for word in (0, 1, True, False, None, (), [], ("once",), ["once"], rule):
                self.no((word,) + rule[1:])

    def test_what_stands_within_is_no_rule(self):
        for thing in (None, True, False, 0, 5, "", "once 5 2", (), [], ("once",), ("once", 5, 49), ("once", True, 2)):
            for word in ("from", "until", "also"):
                self.no((word, 3, thing))
                self.no((word, 3, ("but", (3,), thing)))
            self.no(("but", (3,), thing))

    def test_what_is_wrong_around(self):
        self.no(("from", -1, ONCE))
        self.no(("from", 3, ("until", -1, ONCE)))
        self.no(("also", 3, ("but", (), ONCE)))

    def test_no_tuples(self):
        for thing in (None, True, False, 0, 1, -1, "", "once", "once 5 2", [], [ONCE], ["once", 5, 2]):
            self.no(thing)

    def test_the_empty_tuple_and_tuples_of_rules(self):
        for thing in ((), ((),), (ONCE,), (ONCE, ONCE, ONCE), (None,), (None, None, None)):
            self.no(thing)


class TestDepth(TestCase):
    def within(self, rule, many):
        """Put rules around the rule until so many stand within one another."""
        arounds = [("from", 1), ("until", 2), ("also", 3), ("but", (4,))]
        for at in range(many - 1):
            rule = arounds[at % 4] + (rule,)
        return rule

    def test_up_to_eight(self):
        for rule in PLAIN:
            for many in range(1, 9):
                self.yes(self.within(rule, many))

    def test_nine_and_more(self):
        for rule in PLAIN:
            for many in (9, 10, 11, 16, 5000):
                self.no(self.within(rule, many))

    def test_eight_around_none(self):
        for many in range(2, 10):
            self.no(self.within(("once", 5, 0), many))


class TestUntouched(TestCase):
    def test_what_is_handed_in_is_as_it_was(self):
        things = [["once", 5, 2], ("week", [0, 2], 9, 8), ("from", 3, ["once", 5, 2]), [[], ()], ("but", (3,), [])]
        before = copy.deepcopy(things)
        for thing in things:
            self.no(thing)
        self.assertEqual(things, before)


if __name__ == "__main__":
    unittest.main()
