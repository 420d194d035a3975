"""The book of meetings: to meet, drop and move, and busy rules beside meetings."""

import random
import unittest

from freehour import errors
from freehour.book import Book
from tests.slow_book import SlowBook, random_rule

ALWAYS = ("every", 0, 1, 1)
FAR = 10 ** 12 - 1


def book_of(*names):
    """A book of people who are always free."""
    book = Book()
    for name in names:
        book.come(name, [ALWAYS])
    return book


class TestMeet(unittest.TestCase):
    def test_it_takes_the_first_hour(self):
        book = book_of("ann")
        self.assertEqual(book.meet(["ann"], 2, 5, 50), (1, 5))
        self.assertEqual(book.meet(["ann"], 2, 5, 50), (2, 7))
        self.assertEqual(book.meet(["ann"], 1, 4, 50), (3, 4))
        self.assertEqual(book.meet(["ann"], 3, 4, 50), (4, 9))
        self.assertIs(type(book.meet(["ann"], 3, 4, 50)), tuple)

    def test_meetings_by_number(self):
        book = book_of("ann", "bob")
        book.meet(["bob", "ann"], 2, 50, 90)
        book.meet(["ann"], 3, 5, 90)
        book.meet(["bob"], 1, 5, 90)
        due = [(1, 50, 2, ("bob", "ann")), (2, 5, 3, ("ann",)), (3, 5, 1, ("bob",))]
        self.assertEqual(book.meetings(), due)
        self.assertIs(type(book.meetings()), list)
        book.move(1, 1, 9)
        self.assertEqual(book.meetings(), [(1, 1, 2, ("bob", "ann"))] + due[1:])

    def test_it_lasts_for_all_who_are_named(self):
        book = book_of("ann", "bob", "mia")
        book.meet(["ann", "bob"], 2, 5, 50)
        for hour in range(10):
            self.assertIs(book.is_free("ann", hour), hour not in (5, 6))
            self.assertIs(book.is_free("bob", hour), hour not in (5, 6))
            self.assertIs(book.is_free("mia", hour), True)
        self.assertEqual(book.meet(["mia", "bob"], 2, 5, 50), (2, 7))
        self.assertEqual(book.meet(["mia"], 2, 5, 50), (3, 5))

    def test_none_changes_nothing(self):
        book = book_of("ann")
        self.assertIsNone(book.meet(["ann"], 5, 0, 4))
        book.meet(["ann"], 48, 0, 48)
        for hours, start, end in ((1, 0, 48), (1, 0, 0), (2, 47, 49), (48, 0, 95)):
            self.assertIsNone(book.meet(["ann"], hours, start, end))
        self.assertEqual(book.meetings(), [(1, 0, 48, ("ann",))])
        self.assertEqual(book.meet(["ann"], 1, 0, 90), (2, 48))

    def test_the_names_handed_in_may_be_changed_later(self):
        book = book_of("ann", "bob")
        names = ["ann"]
        book.meet(names, 2, 5, 50)
        names.append("bob")
        names[0] = "bob"
        self.assertEqual(book.meetings(), [(1, 5, 2, ("ann",))])
        self.assertIs(book.is_free("ann", 5), False)
        self.assertIs(book.is_free("bob", 5), True)

    def test_the_list_told_is_the_askers_own(self):
        book = book_of("ann")
        book.meet(["ann"], 2, 5, 50)
        told = book.meetings()
        book.meet(["ann"], 2, 5, 50)
        book.move(1, 20, 50)
        self.assertEqual(told, [(1, 5, 2, ("ann",))])
        book.meetings().clear()
        self.assertEqual(book.meetings(), [(1, 20, 2, ("ann",)), (2, 7, 2, ("ann",))])

    def test_near_the_highest_time(self):
        book = book_of("ann")
        self.assertEqual(book.meet(["ann"], 48, FAR - 48, FAR), (1, FAR - 48))
        self.assertIsNone(book.meet(["ann"], 1, FAR - 48, FAR))
        self.assertIs(book.is_free("ann", FAR - 1), False)
        self.assertIs(book.is_free("ann", FAR), True)


class TestDrop(unittest.TestCase):
    def test_it_is_gone(self):
        book = book_of("ann", "bob")
        book.meet(["ann", "bob"], 2, 5, 50)
        book.meet(["ann"], 2, 5, 50)
        self.assertIsNone(book.drop(1))
        self.assertEqual(book.meetings(), [(2, 7, 2, ("ann",))])
        self.assertIs(book.is_free("ann", 5), True)
        self.assertIs(book.is_free("bob", 6), True)
        self.assertIs(book.is_free("ann", 7), False)
        with self.assertRaises(errors.NoMeeting):
            book.drop(1)

    def test_numbers_are_never_given_again(self):
        book = book_of("ann")
        for number in range(1, 6):
            self.assertEqual(book.meet(["ann"], 2, 5, 50), (number, 5))
            book.drop(number)
        self.assertEqual(book.meetings(), [])
        self.assertEqual(book.meet(["ann"], 2, 5, 50), (6, 5))
        self.assertEqual(book.meet(["ann"], 2, 5, 50), (7, 7))
        book.drop(7)
        self.assertEqual(book.meet(["ann"], 2, 5, 50), (8, 7))


class TestMove(unittest.TestCase):
    def test_it_takes_the_first_hour_of_another_stretch(self):
        book = book_of("ann", "bob")
        book.meet(["bob", "ann"], 2, 5, 50)
        self.assertEqual(book.move(1, 30, 50), 30)
        self.assertEqual(book.meetings(), [(1, 30, 2, ("bob", "ann"))])
        for name in ("ann", "bob"):
            self.assertEqual([hour for hour in range(40) if not book.is_free(name, hour)], [30, 31])

    def test_over_its_own_hours(self):
        book = book_of("ann")
        book.meet(["ann"], 5, 10, 50)
        for start in (10, 11, 14, 13, 9, 5, 6):
            self.assertEqual(book.move(1, start, start + 5), start)
            self.assertEqual(book.meetings(), [(1, start, 5, ("ann",))])

    def test_it_stays_where_there_is_none(self):
        book = book_of("ann", "bob")
        book.meet(["ann"], 2, 5, 50)
        book.meet(["bob"], 10, 20, 30)
        book.meet(["bob", "ann"], 3, 40, 50)
        before = book.meetings()
        for start, end in ((0, 2), (0, 0), (19, 21), (18, 20), (29, 31), (42, 44)):
            told = book.move(3, start, end)
            self.assertIsNone(told)
            self.assertEqual(book.meetings(), before)
        self.assertIsNone(book.move(3, 20, 32))
        self.assertEqual(book.meetings(), before)
        self.assertIs(book.is_free("ann", 41), False)
        self.assertEqual(book.move(3, 20, 33), 30)

    def test_other_meetings_stand_in_the_way(self):
        book = book_of("ann")
        book.meet(["ann"], 2, 5, 50)
        book.meet(["ann"], 2, 5, 50)
        self.assertEqual(book.move(1, 6, 50), 9)
        self.assertEqual(book.move(2, 5, 50), 5)
        self.assertEqual(book.move(2, 8, 50), 11)

    def test_the_number_stays(self):
        book = book_of("ann")
        book.meet(["ann"], 2, 5, 50)
        book.move(1, 20, 50)
        self.assertEqual(book.meet(["ann"], 2, 5, 50), (2, 5))
        book.drop(1)
        self.assertEqual(book.meetings(), [(2, 5, 2, ("ann",))])

    def test_busy_rules_given_later_count(self):
        book = book_of("ann")
        book.meet(["ann"], 2, 5, 50)
        book.busy("ann", ("once", 7, 3))
        self.assertEqual(book.move(1, 6, 50), 10)
        self.assertEqual(book.move(1, 5, 50), 5)


class TestClash(unittest.TestCase):
    def setUp(self):
        self.book = book_of("ann", "bob")
        self.book.meet(["ann"], 4, 10, 50)

    def clash(self, name, rule):
        with self.assertRaises(errors.Clash):
            self.book.busy(name, rule)
        for hour in (9, 14):
            self.assertIs(self.book.is_free(name, hour), True)

    def test_at_the_first_and_the_last_hour_and_beside_it(self):
        self.clash("ann", ("once", 10, 1))
        self.clash("ann", ("once", 13, 1))
        self.clash("ann", ("once", 13, 48))
        self.clash("ann", ("once", 11, 2))
        self.clash("ann", ("once", 3, 8))
        self.clash("ann", ("once", 0, 48))
        self.assertIsNone(self.book.busy("ann", ("once", 14, 5)))
        self.assertIsNone(self.book.busy("ann", ("once", 3, 7)))
        self.assertIsNone(self.book.busy("ann", ("once", 9, 1)))

    def test_rules_that_come_again(self):
        self.clash("ann", ("every", 0, 1, 10))
        self.clash("ann", ("week", (0,), 13, 3))
        self.clash("ann", ("month", 1, 8, 3))
        self.assertIsNone(self.book.busy("ann", ("every", 4, 2, 10)))
        self.assertIsNone(self.book.busy("ann", ("month", 2, 8, 3)))
        self.assertIsNone(self.book.busy("ann", ("from", 1, ("month", 1, 0, 20))))

    def test_a_meeting_of_others_is_no_clash(self):
        self.assertIsNone(self.book.busy("bob", ("once", 10, 4)))
        self.book.meet(["bob", "ann"], 1, 20, 21)
        self.clash("ann", ("once", 20, 1))
        self.clash("bob", ("once", 20, 1))

    def test_behind_a_drop_or_a_move_it_is_none(self):
        self.book.move(1, 30, 50)
        self.clash("ann", ("once", 30, 4))
        self.assertIsNone(self.book.busy("ann", ("once", 10, 4)))
        self.book.drop(1)
        self.assertIsNone(self.book.busy("ann", ("once", 30, 4)))

    def test_far_meetings(self):
        self.book.meet(["bob"], 2, FAR - 2, FAR)
        self.clash("bob", ("once", FAR - 1, 1))
        self.clash("bob", ("every", (FAR - 2) % 1000, 1, 1000))
        self.assertIsNone(self.book.busy("bob", ("once", FAR, 1)))


class TestTwentyRules(unittest.TestCase):
    def test_the_twenty_first_busy_rule(self):
        book = book_of("ann", "bob")
        for hour in range(20):
            self.assertIsNone(book.busy("ann", ("once", 2 * hour, 1)))
        with self.assertRaises(errors.NoRule):
            book.busy("ann", ("once", 40, 1))
        self.assertEqual([hour for hour in range(60) if not book.is_free("ann", hour)], list(range(0, 40, 2)))
        self.assertIsNone(book.busy("bob", ("once", 40, 1)))

    def test_the_same_rule_counts_each_time(self):
        book = book_of("ann")
        for _ in range(20):
            book.busy("ann", ("once", 5, 1))
        with self.assertRaises(errors.NoRule):
            book.busy("ann", ("once", 5, 1))

    def test_a_refused_one_does_not_count(self):
        book = book_of("ann")
        book.meet(["ann"], 1, 0, 1)
        for _ in range(19):
            book.busy("ann", ("once", 5, 1))
        for _ in range(5):
            with self.assertRaises(errors.Clash):
                book.busy("ann", ("once", 0, 1))
        book.busy("ann", ("once", 6, 1))
        with self.assertRaises(errors.NoRule):
            book.busy("ann", ("once", 0, 1))

    def test_free_rules_up_to_twenty(self):
        book = Book()
        for name, many in (("a", 0), ("b", 1), ("c", 19), ("d", 20)):
            book.come(name, [("once", 2 * hour, 1) for hour in range(many)])
            self.assertEqual(len([hour for hour in range(60) if book.is_free(name, hour)]), many)
        for many in (21, 22, 100):
            with self.assertRaises(errors.NoRule):
                book.come("e", [("once", 5, 1)] * many)


class TestManyOrders(unittest.TestCase):
    def setUp(self):
        self.chance = random.Random(15)

    def begin(self):
        self.book, self.slow = Book(), SlowBook()
        self.names = ["ann", "bob", "mia"][:self.chance.randint(1, 3)]
        for name in self.names:
            free = [random_rule(self.chance, 100) for _ in range(2)] + [self.chance.choice([ALWAYS, ("every", 3, 9, 11)])]
            self.book.come(name, free)
            self.slow.come(name, free)

    def told(self, action, *parts):
        """What the book tells, or the name of its refusal."""
        try:
            return getattr(self.book, action)(*parts)
        except errors.HourError as error:
            return error.__class__.__name__

    def stretch(self):
        start = self.chance.randrange(150)
        return start, start + self.chance.choice([0, 2, 10, 50, 200])

    def step(self):
        action = self.chance.choice(["meet", "meet", "meet", "move", "move", "drop", "busy"])
        if action == "meet":
            names = self.chance.sample(self.names, self.chance.randint(1, len(self.names)))
            parts = (names, self.chance.choice([1, 2, 3, 8, 20]), *self.stretch())
        elif action == "move":
            parts = (self.chance.randint(1, self.slow.given + 1), *self.stretch())
        elif action == "drop":
            parts = (self.chance.randint(1, self.slow.given + 1),)
        else:
            rule = self.chance.choice([random_rule(self.chance, 200), ("once", self.chance.randrange(200), 2)])
            parts = (self.chance.choice(self.names), rule)
        self.assertEqual(self.told(action, *parts), getattr(self.slow, action)(*parts), (action, parts))
        self.assertEqual(self.book.meetings(), self.slow.meetings())

    def check_hours(self):
        for name in self.names:
            for hour in range(250):
                self.assertIs(self.book.is_free(name, hour), self.slow.is_free(name, hour))
            taken = [hour + k for _, hour, hours, who in self.book.meetings() if name in who for k in range(hours)]
            self.assertEqual(len(taken), len(set(taken)))

    def test_against_a_slow_reading(self):
        for _ in range(60):
            self.begin()
            for _ in range(50):
                self.step()
            self.check_hours()


if __name__ == "__main__":
    unittest.main()
