"""A book written the slow way, hour by hour: the tests compare the program with it.

It knows the first year only; refusals that a test asks for are told by name.
"""

import functools
import math

from tests.naive import begins_of

YEARS = 1
AROUND = ("from", "until", "also", "but")


def inside(rule):
    """The rule that stands innermost."""
    return inside(rule[2]) if rule[0] in AROUND else rule


def slow_length(rule):
    plain = inside(rule)
    return plain[2] if plain[0] in ("once", "every") else plain[3]


@functools.lru_cache(maxsize=None)
def covered_hours(rule):
    """All hours of the year that the rule covers."""
    return frozenset(hour + k for hour in begins_of(rule, YEARS) for k in range(slow_length(rule)))


def slow_round(rule):
    plain = inside(rule)
    return {"once": 1, "every": plain[-1], "week": 7 * 24, "month": (365 * 4 + 1) * 24}[plain[0]]


def slow_settled(rule):
    if rule[0] == "once":
        return rule[1] + 1
    if rule[0] == "every":
        return rule[1]
    if rule[0] in ("week", "month"):
        return 0
    own = {"from": 0, "until": 0, "also": 1}
    hour = (rule[1][-1] + 1) * 24 if rule[0] == "but" else rule[1] + own[rule[0]]
    return max(hour, slow_settled(rule[2]))


class SlowBook:
    def __init__(self):
        self.free = {}
        self.busy_rules = {}
        self.standing = {}
        self.given = 0

    def come(self, name, free):
        self.free[name] = list(free)
        self.busy_rules[name] = []

    def busy(self, name, rule):
        """None, or the name of the refusal."""
        if len(self.busy_rules[name]) == 20:
            return "NoRule"
        for hour, hours, names in self.standing.values():
            for at in range(hour, hour + hours):
                if name in names and at in covered_hours(rule):
                    return "Clash"
        self.busy_rules[name].append(rule)
        return None

    def is_free(self, name, at, without=None):
        if not any(at in covered_hours(rule) for rule in self.free[name]):
            return False
        if any(at in covered_hours(rule) for rule in self.busy_rules[name]):
            return False
        for number, (hour, hours, names) in self.standing.items():
            if number != without and name in names and hour <= at < hour + hours:
                return False
        return True

    def all_free(self, names, hours, hour, without=None):
        return all(self.is_free(name, hour + k, without) for k in range(hours) for name in names)

    def first(self, names, hours, start, end, without=None):
        for hour in range(start, end - hours + 1):
            if self.all_free(names, hours, hour, without):
                return hour
        return None

    def meet(self, names, hours, start, end):
        hour = self.first(names, hours, start, end)
        if hour is None:
            return None
        self.given += 1
        self.standing[self.given] = (hour, hours, tuple(names))
        return (self.given, hour)

    def meetings(self):
        return [(number,) + self.standing[number] for number in sorted(self.standing)]

    def drop(self, number):
        if number not in self.standing:
            return "NoMeeting"
        del self.standing[number]
        return None

    def move(self, number, start, end):
        if number not in self.standing:
            return "NoMeeting"
        _, hours, names = self.standing[number]
        hour = self.first(names, hours, start, end, number)
        if hour is not None:
            self.standing[number] = (hour, hours, names)
        return hour

    def walk_length(self, names, start):
        """How many hours point [11] says that the walk is long."""
        rules = [rule for name in names for rule in self.free[name] + self.busy_rules[name]]
        settled = [slow_settled(rule) for rule in rules]
        over = [hour + hours for hour, hours, who in self.standing.values() if set(who) & set(names)]
        late = 48 + max(settled + over + [0])
        return math.lcm(*[slow_round(rule) for rule in rules]) + max(late - start, 0)

    def ever(self, names, hours, start, more=0):
        """The hour or None, or the name of the refusal; more are hours beyond the walk."""
        walk = self.walk_length(names, start)
        if walk > 5000:
            return "TooLong"
        for hour in range(start, start + walk + more):
            if self.all_free(names, hours, hour):
                return hour
        return None


def check_rows(case, slow, asked, told, without=None):
    """Check all that point [8] says of the rows that were told."""
    names, hours, start, end = asked
    hour, rows = told
    case.assertIs(type(told), tuple)
    case.assertIs(type(rows), list)
    at = start
    for row in rows:
        case.assertIs(type(row), tuple)
        first, last, name, busy = row
        case.assertEqual(first, at)
        case.assertLessEqual(first, last)
        case.assertLessEqual(last, busy)
        case.assertLess(busy, first + hours)
        case.assertIn(name, names)
        case.assertIs(slow.is_free(name, busy, without), False)
        at = last + 1
    last = end - hours if hour is None else hour - 1
    case.assertEqual(at, max(start, last + 1))


def random_plain(chance, many):
    """A rule without one within, of the first so many hours."""
    length = chance.choice([1, 2, 3, 5, 8, 13, 24, 30, 47, 48])
    word = chance.choice(["once", "every", "every", "week", "month"])
    if word == "once":
        return (word, chance.randrange(many), length)
    if word == "every":
        return (word, chance.randrange(many), length, chance.choice([1, 2, 7, 10, 24, 31, 60, 168, 1000]))
    if word == "week":
        days = sorted(chance.sample(range(7), chance.randint(1, 7)))
        return (word, tuple(days), chance.randrange(24), length)
    day = chance.choice([1, 2, 5, 15, 28, 29, 30, 31])
    return (word, chance.choice([day, -day]), chance.randrange(24), length)


def random_rule(chance, many=400):
    """Any rule of the first so many hours, often with others around it."""
    rule = random_plain(chance, many)
    for _ in range(chance.choice([0, 0, 0, 1, 2, 7])):
        word = chance.choice(AROUND)
        if word == "but":
            part = tuple(sorted(chance.sample(range(many // 24 + 1), chance.randint(1, 5))))
        else:
            part = chance.randrange(many)
        rule = (word, part, rule)
    return rule
