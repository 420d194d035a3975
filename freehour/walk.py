"""The walk along the hours to the first one that all have free."""

from math import lcm

from freehour.errors import TooLong
from freehour.marks import all_marks, any_cover_marks, common_marks, stretch_marks
from freehour.rounds import round_of, settled
from freehour.rules import MOST_LENGTH

MOST_AT_ONCE = 1000
MOST_WALK = 5000


class Calendar:
    """All that decides when somebody is free; taken are the (hour, hours) of their meetings."""

    def __init__(self, name, free_rules, busy_rules, taken):
        self.name = name
        self.free_rules = free_rules
        self.busy_rules = busy_rules
        self.taken = taken

    def free_marks(self, low, many):
        """Mark the hours from low on, so many, at which the person is free."""
        free = any_cover_marks(self.free_rules, low, many)
        busy = any_cover_marks(self.busy_rules, low, many)
        for hour, hours in self.taken:
            busy = busy | stretch_marks(hour, hour + hours, low, many)
        return free & ~busy


class Part:
    """A part of the walk: when each person is free in the hours from low on."""

    def __init__(self, calendars, low, many):
        self.low = low
        self.names = [calendar.name for calendar in calendars]
        self.marks = [calendar.free_marks(low, many) for calendar in calendars]
        self.all_free = common_marks(self.marks, many)

    def hindrance(self, hour, hours):
        """Tell the last of the hours from that one on at which not all are free, or None."""
        hindering = all_marks(hours) & ~(self.all_free >> (hour - self.low))
        if hindering == 0:
            return None
        return hour + hindering.bit_length() - 1

    def hindered(self, hour):
        """List the names of all who are not free at the hour."""
        ahead = hour - self.low
        return [name for name, marks in zip(self.names, self.marks) if (marks >> ahead) & 1 == 0]


def walk_part(part, hours, last):
    """Walk from the part's low hour to the last one: a tuple (hour or None, rows)."""
    rows = []
    hour = part.low
    while hour <= last:
        late = part.hindrance(hour, hours)
        if late is None:
            return (hour, rows)
        # Whoever begins behind this hour, and no later than late, still has late in the meeting.
        rows.append((hour, min(late, last), part.hindered(late)[0], late))
        hour = late + 1
    return (None, rows)


def walk(calendars, hours, start, last):
    """Walk from start to the last hour to begin at: a tuple (hour or None, rows)."""
    rows = []
    low = start
    # In parts, so that an hour found early takes no work for those behind it.
    while low <= last:
        end = min(low + MOST_AT_ONCE - 1, last)
        part = Part(calendars, low, end - low + hours)
        found, more = walk_part(part, hours, end)
        rows.extend(more)
        if found is not None:
            return (found, rows)
        low = end + 1
    return (None, rows)


def common_round(rules):
    """Tell the least common multiple of the rounds; refuse with TooLong more than a walk."""
    common = 1
    for rule in rules:
        common = lcm(common, round_of(rule))
        # Told at once: it can only grow, and to a number of very many figures.
        if common > MOST_WALK:
            raise TooLong("the rules come round too late")
    return common


def settled_for_all(calendars, rules):
    """Tell an hour from which on all rules come round and no meeting lasts."""
    hours = [settled(rule) for rule in rules]
    for calendar in calendars:
        hours.extend([hour + many for hour, many in calendar.taken])
    return max(hours, default=0) + MOST_LENGTH


def walk_for_ever(calendars, start):
    """Tell how many hours to walk where there is no end; refuse with TooLong."""
    rules = []
    for calendar in calendars:
        rules.extend(calendar.free_rules)
        rules.extend(calendar.busy_rules)
    many = common_round(rules) + max(settled_for_all(calendars, rules) - start, 0)
    if many > MOST_WALK:
        raise TooLong("the walk is too long")
    return many
