"""Who comes, with which rules, and who is free at which hours."""

import random
import unittest

from freehour.book import Book
from freehour.rules import covers
from tests.slow_book import SlowBook, random_rule

FAR = 10 ** 12 - 1
HUGE = 10 ** 30
ALWAYS = ("every", 0, 1, 1)


def book_of(free, busy=()):
    """A book with ann alone."""
    book = Book()
    book.come("ann", list(free))
    for rule in busy:
        book.busy("ann", rule)
    return book


class TestPeople(unittest.TestCase):
    def test_nobody_at_first(self):
        self.assertEqual(Book().people(), [])
        self.assertEqual(Book().meetings(), [])

    def test_in_the_order_in_which_they_came(self):
        book = Book()
        for name in ("zoe", "ann", "mia", "b", "abcdefghijkl"):
            self.assertIsNone(book.come(name, []))
        self.assertEqual(book.people(), ["zoe", "ann", "mia", "b", "abcdefghijkl"])
        self.assertIs(type(book.people()), list)

    def test_the_list_told_is_the_askers_own(self):
        book = book_of([])
        told = book.people()
        told.append("bob")
        told[0] = "zoe"
        self.assertEqual(book.people(), ["ann"])
        told = book.people()
        book.come("mia", [])
        self.assertEqual(told, ["ann"])
        self.assertEqual(book.people(), ["ann", "mia"])

    def test_the_list_handed_in_may_be_changed_later(self):
        book = Book()
        free = [("once", 5, 2)]
        book.come("ann", free)
        book.come("bob", free)
        self.assertEqual(free, [("once", 5, 2)])
        free[0] = ALWAYS
        free.append(ALWAYS)
        self.assertEqual([hour for hour in range(20) if book.is_free("ann", hour)], [5, 6])
        free.clear()
        self.assertEqual([hour for hour in range(20) if book.is_free("bob", hour)], [5, 6])
        book.busy("ann", ("once", 5, 1))
        self.assertEqual([hour for hour in range(20) if book.is_free("bob", hour)], [5, 6])

    def test_books_share_nothing(self):
        book, other = book_of([ALWAYS]), book_of([ALWAYS])
        book.come("bob", [])
        book.busy("ann", ALWAYS)
        other.meet(["ann"], 2, 0, 9)
        self.assertEqual(other.people(), ["ann"])
        self.assertIs(other.is_free("ann", 5), True)
        self.assertEqual(book.meetings(), [])


class TestIsFree(unittest.TestCase):
    def told(self, book, end=100, name="ann"):
        return [hour for hour in range(-60, end) if book.is_free(name, hour)]

    def test_without_rules(self):
        self.assertEqual(self.told(book_of([])), [])
        self.assertEqual(self.told(book_of([], [ALWAYS])), [])

    def test_true_and_false_are_told(self):
        book = book_of([("once", 5, 2)])
        self.assertIs(book.is_free("ann", 6), True)
        self.assertIs(book.is_free("ann", 7), False)
        self.assertIs(book.is_free("ann", -1), False)
        self.assertIs(book_of([("once", 5, 1)], [("once", 5, 1)]).is_free("ann", 5), False)

    def test_one_free_rule(self):
        self.assertEqual(self.told(book_of([("once", 30, 5)])), [30, 31, 32, 33, 34])
        self.assertEqual(self.told(book_of([("every", 5, 2, 24)])), [5, 6, 29, 30, 53, 54, 77, 78])
        self.assertEqual(self.told(book_of([("week", (0,), 9, 8)])), list(range(9, 17)))

    def test_one_of_several_free_rules_is_enough(self):
        book = book_of([("once", 30, 5), ("once", 33, 4), ("once", 50, 1)])
        self.assertEqual(self.told(book), [30, 31, 32, 33, 34, 35, 36, 50])

    def test_busy_rules(self):
        free = [("once", 30, 10)]
        self.assertEqual(self.told(book_of(free, [("once", 33, 2)])), [30, 31, 32, 35, 36, 37, 38, 39])
        self.assertEqual(self.told(book_of(free, [("once", 28, 4), ("once", 38, 48)])), list(range(32, 38)))
        self.assertEqual(self.told(book_of(free, [("once", 30, 10)])), [])
        self.assertEqual(self.told(book_of(free, [("once", 28, 2), ("once", 40, 5)])), list(range(30, 40)))

    def test_one_busy_rule_is_enough_whatever_the_free_ones(self):
        book = book_of([ALWAYS, ALWAYS, ("once", 3, 5)], [("once", 90, 1), ("once", 4, 2)])
        self.assertEqual(self.told(book, 10), [0, 1, 2, 3, 6, 7, 8, 9])

    def test_meetings(self):
        book = book_of([ALWAYS])
        book.come("bob", [ALWAYS])
        self.assertEqual(book.meet(["ann"], 3, 5, 20), (1, 5))
        self.assertEqual(self.told(book, 12), [0, 1, 2, 3, 4, 8, 9, 10, 11])
        self.assertEqual(self.told(book, 12, "bob"), list(range(12)))
        book.move(1, 7, 20)
        self.assertEqual(self.told(book, 12), [0, 1, 2, 3, 4, 5, 6, 10, 11])
        book.drop(1)
        self.assertEqual(self.told(book, 12), list(range(12)))

    def test_below_0(self):
        book = book_of([ALWAYS, ("once", 0, 48), ("month", -1, 20, 48), ("week", (6,), 23, 48)])
        for hour in (-1, -2, -24, -47, -48, -168, -FAR, -HUGE):
            self.assertIs(book.is_free("ann", hour), False)
        self.assertIs(book.is_free("ann", 0), True)

    def test_far_off(self):
        book = book_of([("once", FAR, 2), ("every", 3, 1, 10)], [("from", FAR - 8, ("every", 3, 1, 1000))])
        near = range(FAR - 30, FAR + 30)
        due = [hour for hour in near if hour in (FAR, FAR + 1) or hour % 10 == 3 and hour % 1000 != 3]
        self.assertEqual([hour for hour in near if book.is_free("ann", hour)], due)
        self.assertIs(book.is_free("ann", HUGE + 13), True)
        self.assertIs(book.is_free("ann", HUGE + 3), False)
        self.assertIs(book.is_free("ann", HUGE + 4), False)
        self.assertIs(book.is_free("ann", 10 ** 800 + 13), True)

    def test_far_off_as_its_rules_cover(self):
        chance = random.Random(12)
        for _ in range(100):
            free, busy = random_rule(chance), random_rule(chance)
            book = book_of([free], [busy])
            for hour in (FAR, HUGE, HUGE + chance.randrange(10 ** 6), 10 ** 12 + chance.randrange(10 ** 6)):
                self.assertIs(book.is_free("ann", hour), covers(free, hour) and not covers(busy, hour))

    def test_against_a_slow_reading(self):
        chance = random.Random(13)
        for _ in range(150):
            slow, book = SlowBook(), Book()
            free = [random_rule(chance) for _ in range(chance.choice([0, 1, 1, 2, 5, 20]))]
            slow.come("ann", free)
            book.come("ann", free)
            for _ in range(chance.choice([0, 0, 1, 2, 20])):
                rule = random_rule(chance)
                slow.busy("ann", rule)
                self.assertIsNone(book.busy("ann", rule))
            for hour in range(-50, 600):
                self.assertIs(book.is_free("ann", hour), slow.is_free("ann", hour), (free, hour))


if __name__ == "__main__":
    unittest.main()
