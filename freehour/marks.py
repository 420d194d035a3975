"""Marks: the hours of a short stretch, as one whole number.

The marks of the many hours from a low one on have one binary figure for each
of these hours: the figure worth 2 ** k tells of the hour k behind the low one.
So all hours of a stretch are worked out at once, and not one by one.
"""

from freehour.dates import MONTHS, date_of, month_length
from freehour.rules import DAY_HOURS, WEEK_DAYS, length_of


def all_marks(many):
    """Mark all of the hours."""
    return (1 << many) - 1


def common_marks(rows, many):
    """Mark the hours that are marked in all of the rows of marks."""
    marks = all_marks(many)
    for row in rows:
        marks = marks & row
    return marks


def stretch_marks(first, end, low, many):
    """Mark the hours from first to below end, as far as they are among the many from low on."""
    ahead = max(first - low, 0)
    behind = min(end - low, many)
    if ahead >= behind:
        return 0
    return all_marks(behind - ahead) << ahead


def hour_marks(hour, low, many):
    """Mark a single hour."""
    return stretch_marks(hour, hour + 1, low, many)


def every_marks(hour, step, low, many):
    """Mark the hour, and again each step hours later."""
    ahead = hour - low
    if ahead < 0:
        ahead = ahead % step
    if ahead >= many:
        return 0
    marks = 1 << ahead
    # Each time what is marked so far is put behind itself.
    width = step
    while ahead + width < many:
        marks = marks | (marks << width)
        width = 2 * width
    return marks & all_marks(many)


def week_days(weekdays, first, end):
    """List the days from first to below end that have one of the weekdays."""
    return [day for day in range(first, end) if day % WEEK_DAYS in weekdays]


def month_days(wanted, first, end):
    """List the days from first to below end that have that place in their month."""
    year, month, number = date_of(first)
    begin = first - number + 1
    days = []
    while begin < end:
        length = month_length(year, month)
        place = wanted if wanted > 0 else length + 1 + wanted
        day = begin + place - 1
        if 1 <= place <= length and first <= day < end:
            days.append(day)
        begin = begin + length
        # Month 1 of the next year is behind month 12.
        year, month = year + month // MONTHS, month % MONTHS + 1
    return days


def day_begin_marks(rule, low, many):
    """Mark the begins of a week or month."""
    first = low // DAY_HOURS
    end = (low + many - 1) // DAY_HOURS + 1
    if rule[0] == "week":
        days = week_days(rule[1], first, end)
    else:
        days = month_days(rule[1], first, end)
    marks = 0
    for day in days:
        marks = marks | hour_marks(day * DAY_HOURS + rule[2], low, many)
    return marks


def plain_begin_marks(rule, low, many):
    """Mark the begins of a rule without one within."""
    if rule[0] == "once":
        return hour_marks(rule[1], low, many)
    if rule[0] == "every":
        return every_marks(rule[1], rule[3], low, many)
    return day_begin_marks(rule, low, many)


def days_marks(days, low, many):
    """Mark all hours of the days."""
    marks = 0
    for day in days:
        marks = marks | stretch_marks(day * DAY_HOURS, (day + 1) * DAY_HOURS, low, many)
    return marks


def begin_marks(rule, low, many):
    """Mark the begins of the rule."""
    word = rule[0]
    if word in ("once", "every", "week", "month"):
        return plain_begin_marks(rule, low, many)
    marks = begin_marks(rule[2], low, many)
    if word == "from":
        return marks & stretch_marks(rule[1], low + many, low, many)
    if word == "until":
        return marks & stretch_marks(low, rule[1], low, many)
    if word == "also":
        return marks | hour_marks(rule[1], low, many)
    return marks & ~days_marks(rule[1], low, many)


def lasting(marks, hours):
    """Mark each marked hour and those behind it, so many hours in all."""
    width = 1
    while 2 * width <= hours:
        marks = marks | (marks << width)
        width = 2 * width
    return marks | (marks << (hours - width))


def cover_marks(rule, low, many):
    """Mark the hours that the rule covers; low is 0 or more."""
    length = length_of(rule)
    # A span that lasts in the low hour may have begun ahead of it, but not ahead of hour 0.
    ahead = min(length - 1, low)
    begun = begin_marks(rule, low - ahead, ahead + many)
    return (lasting(begun, length) >> ahead) & all_marks(many)


def any_cover_marks(rules, low, many):
    """Mark the hours that at least one of the rules covers."""
    marks = 0
    for rule in rules:
        marks = marks | cover_marks(rule, low, many)
    return marks
