"""Rules as texts: written, read to the same rule, and texts that write none."""

import itertools
import random
import re
import unittest

from freehour.errors import HourError, NoRule
from freehour.notes import read, shown
from freehour.rules import is_rule
from tests.slow_book import random_rule

LAST_TIME = 10 ** 12 - 1
LAST_DAY = 10 ** 11 - 1
SIGNS = [chr(code) for code in range(32, 127) if chr(code) != "\x25"]
WRITTEN = [
    (("once", 5, 2), "once 5 2"),
    (("once", 0, 1), "once 0 1"),
    (("once", LAST_TIME, 48), "once 999999999999 48"),
    (("every", 5, 2, 24), "every 5 2 24"),
    (("every", 0, 48, 1000000), "every 0 48 1000000"),
    (("week", (0, 2, 4), 9, 8), "week 0,2,4 9 8"),
    (("week", (0,), 0, 1), "week 0 0 1"),
    (("week", (0, 1, 2, 3, 4, 5, 6), 23, 48), "week 0,1,2,3,4,5,6 23 48"),
    (("month", -1, 9, 8), "month -1 9 8"),
    (("month", -31, 0, 10), "month -31 0 10"),
    (("month", 31, 20, 30), "month 31 20 30"),
    (("from", 0, ("once", 5, 2)), "from 0 once 5 2"),
    (("until", 100, ("week", (6,), 9, 8)), "until 100 week 6 9 8"),
    (("also", 7, ("month", -1, 9, 8)), "also 7 month -1 9 8"),
    (("but", (0,), ("every", 5, 2, 24)), "but 0 every 5 2 24"),
    (("but", (3, LAST_DAY), ("once", 5, 2)), "but 3,99999999999 once 5 2"),
    (("but", tuple(range(20)), ("once", 5, 2)), "but 0,1,2,3,4,5,6,7,8,9,10,11,12,13,14,15,16,17,18,19 once 5 2"),
    (("from", 100, ("but", (3, 70), ("every", 5, 2, 24))), "from 100 but 3,70 every 5 2 24"),
    (
        ("from", 1, ("until", 2, ("also", 3, ("but", (4,), ("from", 5, ("until", 6, ("also", 7, ("once", 8, 9)))))))),
        "from 1 until 2 also 3 but 4 from 5 until 6 also 7 once 8 9",
    ),
]
NUMBER = re.compile("(0|-?[1-9][0-9]*)")
DAYS = re.compile("(0|-?[1-9][0-9]*)(,(0|-?[1-9][0-9]*))*")


def slow_words(words):
    """The tuple that the words write, rule or not; None where the words can't be one."""
    kinds = {"once": "nn", "every": "nnn", "week": "dnn", "month": "nnn"}
    arounds = {"from": "n", "until": "n", "also": "n", "but": "d"}
    if not words or words[0] not in {**kinds, **arounds}:
        return None
    letters = {**kinds, **arounds}[words[0]]
    parts = words[1:] if words[0] in kinds else words[1:2]
    if len(parts) != len(letters):
        return None
    found = [words[0]]
    for part, letter in zip(parts, letters):
        if not (NUMBER if letter == "n" else DAYS).fullmatch(part):
            return None
        found.append(int(part) if letter == "n" else tuple(int(day) for day in part.split(",")))
    if words[0] in arounds:
        found.append(slow_words(words[2:]))
    return tuple(found)


def slow_read(text):
    """The rule that the text writes, or None."""
    rule = slow_words(text.split(" "))
    return rule if is_rule(rule) else None


class TestCase(unittest.TestCase):
    def no(self, text):
        with self.assertRaises(NoRule, msg=text):
            read(text)


class TestThereAndBack(TestCase):
    def test_shown(self):
        for rule, text in WRITTEN:
            self.assertEqual(shown(rule), text)
            self.assertIs(type(shown(rule)), str)

    def test_read(self):
        for rule, text in WRITTEN:
            self.assertEqual(read(text), rule)
            self.assertIs(is_rule(read(text)), True)

    def test_each_day_of_a_month(self):
        for day in list(range(1, 32)) + list(range(-31, 0)):
            text = "month " + str(day) + " 9 8"
            self.assertEqual(shown(("month", day, 9, 8)), text)
            self.assertEqual(read(text), ("month", day, 9, 8))

    def test_all_weekdays(self):
        for many in range(1, 8):
            for days in itertools.combinations(range(7), many):
                rule = ("week", days, 9, 8)
                self.assertEqual(read(shown(rule)), rule)

    def test_many_rules(self):
        chance = random.Random(5)
        for _ in range(3000):
            rule = random_rule(chance, chance.choice([100, 10 ** 6]))
            self.assertEqual(read(shown(rule)), rule)

    def test_eight_within_one_another_and_nine(self):
        for rule, text in WRITTEN[:11]:
            for many in range(1, 12):
                if many <= 8:
                    self.assertEqual(read(text), rule)
                    self.assertEqual(shown(rule), text)
                else:
                    self.no(text)
                    # Beyond what a rule is, it is written all the same.
                    self.assertEqual(shown(rule), text)
                rule, text = ("also", many, rule), "also " + str(many) + " " + text


class TestNoRules(TestCase):
    def test_empty_and_blank(self):
        for text in ("", " ", "  ", "-", ",", "0", "5", "5 2", "once", "from", "but", "from 5", "but 3", "rule"):
            self.no(text)

    def test_blanks_and_line_ends(self):
        for _, text in WRITTEN:
            self.no(" " + text)
            self.no(text + " ")
            self.no(text.replace(" ", "", 1))
            self.no(text.replace(" ", ""))
            for at, sign in enumerate(text):
                if sign == " ":
                    self.no(text[:at] + " " + text[at:])
                    self.no(text[:at] + "," + text[at + 1:])
            for end in ("\n", "\t", "\r", "\x00", "\u00a0"):
                self.no(text + end)
                self.no(end + text)
                self.no(text.replace(" ", end, 1))

    def test_noughts_ahead(self):
        for text in ("once 05 2", "once 5 02", "once 00 2", "month -01 9 8", "week 00 9 8", "week 0,02,4 9 8",
                     "week 0,2,04 9 8", "week 0,2,4 09 8", "but 03,70 once 5 2", "from 0100 once 5 2"):
            self.no(text)

    def test_signs_ahead(self):
        for text in ("once -0 2", "once +5 2", "once 5 +2", "month -0 9 8", "month +1 9 8", "month --1 9 8",
                     "month 1- 9 8", "month - 9 8", "week -0 9 8", "week -0,2 9 8", "week +0,2 9 8", "but -0 once 5 2",
                     "but +3 once 5 2", "from -0 once 5 2", "once -5 2", "month -1 -9 8", "month -1 -0 8", "week -1 9 8"):
            self.no(text)

    def test_other_figures(self):
        for text in ("once 5.0 2", "once 1_0 2", "once 0x5 2", "once 1e1 2", "once 5a 2", "once \u0665 2",
                     "once \u00b2 2", "once \uff15 2", "once five 2", "once True 2", "once None 2"):
            self.no(text)

    def test_commas(self):
        for text in ("week ,0,2 9 8", "week 0,2, 9 8", "week 0,,2 9 8", "week , 9 8", "week  9 8", "but 3, once 5 2",
                     "but ,3 once 5 2", "but 3,,70 once 5 2", "but , once 5 2", "once 5,6 2", "once 5 2,", "month 1,2 9 8",
                     "from 1,2 once 5 2", "every 5 2 24,25", "week 0, 2 9 8", "week 0 ,2 9 8"):
            self.no(text)

    def test_days_that_do_not_rise_or_are_too_many(self):
        for text in ("week 0,0 9 8", "week 2,0 9 8", "week 0,4,2 9 8", "week 0,2,2 9 8", "but 3,3 once 5 2",
                     "but 70,3 once 5 2", "week 0,1,2,3,4,5,6,7 9 8", "week 7 9 8",
                     "but 0,1,2,3,4,5,6,7,8,9,10,11,12,13,14,15,16,17,18,19,20 once 5 2"):
            self.no(text)

    def test_parts_too_few_and_too_many(self):
        for _, text in WRITTEN:
            words = text.split(" ")
            for end in range(len(words)):
                self.no(" ".join(words[:end]))
            for more in ("1", "0", "-1", "once", "once 5 2"):
                self.no(text + " " + more)

    def test_numbers_beyond_their_bounds(self):
        for text in ("once 1000000000000 2", "once 5 0", "once 5 49", "every 5 2 0", "every 5 2 1000001", "every 5 49 24",
                     "week 0 24 8", "week 0 9 0", "week 0 9 49", "month 0 9 8", "month 32 9 8", "month -32 9 8",
                     "month 1 24 8", "month 1 9 49", "from 1000000000000 once 5 2", "but 100000000000 once 5 2"):
            self.no(text)

    def test_other_words_and_capitals(self):
        for _, text in WRITTEN:
            self.no(text.upper())
            self.no(text.capitalize())
            for word in ("rule", "year", "weeks", "eve", "1", "fro"):
                self.no(" ".join([word] + text.split(" ")[1:]))
        for text in ("week 0 9 8 month 1 9 8", "from 5 6 once 5 2", "from once 5 2", "but once 5 2", "('once', 5, 2)"):
            self.no(text)

    def test_numbers_of_very_many_figures(self):
        for many in (13, 100, 4300, 4301, 100000):
            for figure in "179":
                figures = figure * many
                for text in ("once {} 2", "once -{} 2", "once 5 {}", "every 5 2 {}", "month {} 9 8", "month -{} 9 8",
                             "week {} 9 8", "week 0,{} 9 8", "but {} once 5 2", "but 3,{} once 5 2", "from {} once 5 2"):
                    self.no(text.format(figures))
            self.no("once " + "0" * many + " 2")
            self.no("once 5" + " 2" * many)
            self.no("from 5 " * many + "once 5 2")
            self.no("from " * many)
            self.no("a" * many)
            self.no("week 0" + ",1" * many + " 9 8")
            self.no(" " * many)

    def test_the_refusal_is_taken_as_all_three(self):
        for kind in (NoRule, HourError, ValueError):
            for text in ("", "once", "once 05 2", "once " + "9" * 5000 + " 2"):
                with self.assertRaises(kind):
                    read(text)


class TestNearMisses(TestCase):
    def check(self, text):
        rule = slow_read(text)
        if rule is None:
            self.no(text)
        else:
            self.assertEqual(read(text), rule)
            self.assertEqual(shown(rule), text)

    def test_one_sign_put_in_taken_out_or_changed(self):
        for _, text in WRITTEN:
            for at in range(len(text) + 1):
                self.check(text[:at] + text[at + 1:])
                for sign in SIGNS:
                    self.check(text[:at] + sign + text[at:])
                    self.check(text[:at] + sign + text[at + 1:])

    def test_words_of_any_kind(self):
        chance = random.Random(6)
        words = ["once", "every", "week", "month", "from", "until", "also", "but", "0", "1", "5", "9", "-1", "0,2", "3,70",
                 "48", "49", "24", "23", "-0", "01", "", "Once", "1,0", "-1,0"]
        for _ in range(30000):
            self.check(" ".join(chance.choice(words) for _ in range(chance.randint(1, 8))))

    def test_any_signs(self):
        chance = random.Random(7)
        for _ in range(3000):
            self.check("".join(chance.choice(SIGNS) for _ in range(chance.randint(0, 30))))


if __name__ == "__main__":
    unittest.main()
