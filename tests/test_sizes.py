"""The sizes that the document allows are answered without waiting."""

import time
import unittest

from freehour.book import Book
from freehour.errors import TooLong

NAMES = [letter * 12 for letter in "abcdefghijkl"]
# Far more than is needed; a walk that asks each rule at each hour takes minutes.
SECONDS = 10


def around(rule):
    """Rules around one, eight in all, as many as there may be; the rule may be an until."""
    for at in range(6 if rule[0] == "until" else 7):
        rule = ("but", tuple(range(1000 + at, 2000, 50)), rule)
    return rule


class TestSizes(unittest.TestCase):
    def setUp(self):
        self.begun = time.monotonic()

    def tearDown(self):
        self.assertLess(time.monotonic() - self.begun, SECONDS)

    def full_book(self, free, busy):
        book = Book()
        for name in NAMES:
            book.come(name, [around(free)] * 20)
            for _ in range(20):
                book.busy(name, around(busy))
        return book

    def test_ten_thousand_hours_with_none(self):
        spans = [
            (("every", 0, 48, 1), ("every", 0, 48, 48)), (("week", (0, 1, 2, 3, 4, 5, 6), 0, 24), ("week", (0, 3, 6), 9, 48)),
            (("month", -1, 0, 48), ("month", 1, 0, 48)), (("every", 0, 1, 2), ("every", 1, 1, 2)),
        ]
        for free, busy in spans:
            book = self.full_book(free, busy)
            for start in (0, 10 ** 12 - 10001):
                hour, rows = book.first(NAMES, 48, start, start + 10000)
                self.assertIsNone(hour)
                self.assertEqual(rows[-1][1], start + 10000 - 48)

    def test_the_hour_at_the_end(self):
        book = self.full_book(("every", 0, 48, 2), ("until", 9970, ("every", 0, 30, 5)))
        self.assertEqual(book.first(NAMES, 1, 0, 10000)[0], 9995)
        self.assertEqual(book.meet(NAMES, 5, 0, 10000), (1, 9995))

    def test_far_hours(self):
        book = self.full_book(("month", -1, 23, 48), ("every", 10 ** 12 - 1, 1, 999999))
        for name in NAMES:
            for hour in range(10 ** 30, 10 ** 30 + 5):
                book.is_free(name, hour)

    def test_a_walk_of_five_thousand_hours(self):
        book = self.full_book(("every", 0, 48, 50), ("every", 0, 48, 100))
        for name in NAMES:
            self.assertEqual(book.ever([name], 48, 99999), 100050)
        far = Book()
        for name in NAMES:
            far.come(name, [("every", 0, 1, 2)] * 20)
        self.assertIsNone(far.ever(NAMES, 2, 0))
        long = self.full_book(("every", 0, 1, 5000), ("every", 1, 48, 5000))
        self.assertEqual(long.ever(NAMES, 1, 50001), 55000)
        with self.assertRaises(TooLong):
            long.ever(NAMES, 1, 1)

    def test_meetings_by_the_dozen(self):
        book = Book()
        for name in NAMES:
            book.come(name, [("every", 0, 48, 10)])
        for number in range(1, 101):
            self.assertEqual(book.meet(NAMES, 48, 0, 10000), (number, 48 * (number - 1)))
        for name in NAMES:
            book.busy(name, ("from", 4800, ("every", 0, 1, 1)))
        for number in range(1, 101):
            self.assertIsNone(book.move(number, 4753, 10000))
            # Those ahead are gone, so it comes to the very first hour.
            self.assertEqual(book.move(number, 0, 10000), 0)
            book.drop(number)
        self.assertEqual(book.meetings(), [])


if __name__ == "__main__":
    unittest.main()
