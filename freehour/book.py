"""The book of people and their meetings."""

from freehour.errors import Clash, NoMeeting, NoName, NoRule, NoTime, Stranger, Taken, Twice
from freehour.marks import cover_marks
from freehour.rules import is_length, is_rule, is_time
from freehour.walk import Calendar, walk, walk_for_ever
from freehour.whole import is_whole

LETTERS = "abcdefghijklmnopqrstuvwxyz"
MOST_LETTERS = 12
MOST_RULES = 20
MOST_STRETCH = 10000
NO_MEETING = 0


def is_name(thing):
    """Tell whether the thing can be somebody's name."""
    if not isinstance(thing, str) or not 1 <= len(thing) <= MOST_LETTERS:
        return False
    return all([sign in LETTERS for sign in thing])


def check_hours(hours):
    """Refuse with NoTime what is no number of hours of a meeting."""
    if not is_length(hours):
        raise NoTime("a meeting has no such number of hours")


def check_time(hour):
    """Refuse with NoTime what is no time."""
    if not is_time(hour):
        raise NoTime("there is no such time")


def check_stretch(start, end):
    """Refuse with NoTime what is no stretch."""
    check_time(start)
    check_time(end)
    if not start <= end <= start + MOST_STRETCH:
        raise NoTime("there is no such stretch")


class Book:
    """People by names, with their rules, and the meetings that stand."""

    def __init__(self):
        # Both by name, in the order in which the people came.
        self._free_rules = {}
        self._busy_rules = {}
        # By number: tuples (hour, hours, names).
        self._meetings = {}
        self._last_number = NO_MEETING

    def come(self, name, free):
        """Let somebody come, with free rules; refuse with NoName, Taken or NoRule."""
        if not is_name(name):
            raise NoName("this is no name")
        if self._is_known(name):
            raise Taken("somebody has the name")
        if len(free) > MOST_RULES or not all([is_rule(rule) for rule in free]):
            raise NoRule("these are no rules, or too many")
        self._free_rules[name] = list(free)
        self._busy_rules[name] = []

    def busy(self, name, rule):
        """Give somebody a busy rule more; refuse with Stranger, NoRule or Clash."""
        self._check_known(name)
        if not is_rule(rule) or len(self._busy_rules[name]) >= MOST_RULES:
            raise NoRule("this is no rule, or one too many")
        for hour, hours in self._taken(name, NO_MEETING):
            if cover_marks(rule, hour, hours) != 0:
                raise Clash("the rule covers an hour of a meeting")
        self._busy_rules[name].append(rule)

    def people(self):
        """List the names in the order in which they came."""
        return list(self._free_rules)

    def is_free(self, name, hour):
        """Tell whether somebody is free at the hour; refuse with Stranger."""
        self._check_known(name)
        return hour >= 0 and self._calendar(name, NO_MEETING).free_marks(hour, 1) == 1

    def first(self, names, hours, start, end):
        """Tell the first hour in the stretch, or None, and why no earlier one: (hour, rows)."""
        self._check_names(names)
        check_hours(hours)
        check_stretch(start, end)
        return walk(self._calendars(names, NO_MEETING), hours, start, end - hours)

    def meet(self, names, hours, start, end):
        """Take the first hour in the stretch: (number, hour), or None where there is none."""
        hour, _ = self.first(names, hours, start, end)
        if hour is None:
            return None
        self._last_number = self._last_number + 1
        self._meetings[self._last_number] = (hour, hours, tuple(names))
        return (self._last_number, hour)

    def meetings(self):
        """List the meetings that stand, by number: tuples (number, hour, hours, names)."""
        return [(number, *meeting) for number, meeting in self._meetings.items()]

    def drop(self, number):
        """Drop the meeting; refuse with NoMeeting."""
        self._check_meeting(number)
        del self._meetings[number]

    def move(self, number, start, end):
        """Move the meeting to the first hour in the stretch, or tell None; refuse with NoMeeting or NoTime."""
        self._check_meeting(number)
        check_stretch(start, end)
        _, hours, names = self._meetings[number]
        hour, _ = walk(self._calendars(names, number), hours, start, end - hours)
        if hour is not None:
            self._meetings[number] = (hour, hours, names)
        return hour

    def ever(self, names, hours, start):
        """Tell the first hour from start on, without end, or None; refuse as first does, then with TooLong."""
        self._check_names(names)
        check_hours(hours)
        check_time(start)
        calendars = self._calendars(names, NO_MEETING)
        many = walk_for_ever(calendars, start)
        hour, _ = walk(calendars, hours, start, start + many - 1)
        return hour

    def _is_known(self, name):
        return isinstance(name, str) and name in self._free_rules

    def _check_known(self, name):
        if not self._is_known(name):
            raise Stranger("nobody has the name")

    def _check_names(self, names):
        if len(names) == 0:
            raise Stranger("nobody is named")
        for name in names:
            self._check_known(name)
        if len(set(names)) < len(names):
            raise Twice("a name stands twice")

    def _check_meeting(self, number):
        # True and False would be found among the numbers, as 1 and 0.
        if not is_whole(number, 1, self._last_number) or number not in self._meetings:
            raise NoMeeting("no such meeting stands")

    def _taken(self, name, without):
        """List (hour, hours) of the meetings of that person, less the one with the number."""
        return [
            (hour, hours)
            for number, (hour, hours, names) in self._meetings.items()
            if name in names and number != without
        ]

    def _calendar(self, name, without):
        return Calendar(name, self._free_rules[name], self._busy_rules[name], self._taken(name, without))

    def _calendars(self, names, without):
        return [self._calendar(name, without) for name in names]
