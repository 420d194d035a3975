"""Rules: what is one, and which hours their spans begin at and cover."""

from freehour.dates import date_of, from_end
from freehour.whole import is_whole

DAY_HOURS = 24
WEEK_DAYS = 7
HIGHEST_TIME = 10 ** 12 - 1
HIGHEST_DAY = 10 ** 11 - 1
MOST_LENGTH = 48
MOST_STEP = 1000000
MOST_MONTH_DAY = 31
MOST_DAYS = 20
MOST_RULES_WITHIN = 8
WORDS_AROUND = ("from", "until", "also", "but")


def is_time(thing):
    """Tell whether the thing is a time."""
    return is_whole(thing, 0, HIGHEST_TIME)


def is_length(thing):
    """Tell whether the thing is so many hours as a span or a meeting may last."""
    return is_whole(thing, 1, MOST_LENGTH)


def is_hour_of_day(thing):
    """Tell whether the thing is an hour of the day."""
    return is_whole(thing, 0, DAY_HOURS - 1)


def is_month_day(thing):
    """Tell whether the thing is a day counted from a month's begin or end."""
    return is_whole(thing, 1, MOST_MONTH_DAY) or is_whole(thing, -MOST_MONTH_DAY, -1)


def is_rising(thing, many, high):
    """Tell whether the thing is a tuple of 1 to many numbers from 0 to high, rising."""
    if not isinstance(thing, tuple) or not 1 <= len(thing) <= many:
        return False
    low = 0
    for number in thing:
        if not is_whole(number, low, high):
            return False
        low = number + 1
    return True


def is_plain_rule(parts):
    """Tell whether a tuple that is not empty is a rule without one within."""
    word = parts[0]
    if word == "once":
        return len(parts) == 3 and is_time(parts[1]) and is_length(parts[2])
    if len(parts) != 4:
        return False
    if word == "every":
        return is_time(parts[1]) and is_length(parts[2]) and is_whole(parts[3], 1, MOST_STEP)
    if word == "week":
        is_day = is_rising(parts[1], WEEK_DAYS, WEEK_DAYS - 1)
    elif word == "month":
        is_day = is_month_day(parts[1])
    else:
        return False
    return is_day and is_hour_of_day(parts[2]) and is_length(parts[3])


def is_around(parts):
    """Tell whether a tuple has all that stands around a rule within."""
    if len(parts) != 3:
        return False
    if parts[0] == "but":
        return is_rising(parts[1], MOST_DAYS, HIGHEST_DAY)
    return is_time(parts[1])


def is_rule(thing):
    """Tell whether the thing is a rule."""
    inner = thing
    for _ in range(MOST_RULES_WITHIN):
        if not isinstance(inner, tuple) or len(inner) == 0:
            return False
        if inner[0] not in WORDS_AROUND:
            return is_plain_rule(inner)
        if not is_around(inner):
            return False
        inner = inner[2]
    return False


def length_of(rule):
    """Tell how many hours each span of the rule lasts."""
    inner = rule
    while inner[0] in WORDS_AROUND:
        inner = inner[2]
    if inner[0] in ("once", "every"):
        return inner[2]
    return inner[3]


def comes_again(first, step, hour):
    """Tell whether the hour is the first one, or a number of steps behind it."""
    if hour == first:
        return True
    # A step of 0, beyond what a rule has, leads to no other hour and must not fail.
    return hour > first and step > 0 and (hour - first) % step == 0


def is_day_of_month(wanted, day):
    """Tell whether the day has that place in its month, from its begin or its end."""
    if wanted < 0:
        return from_end(day) == wanted
    return date_of(day)[2] == wanted


def begins_plain(rule, hour):
    """Tell whether a span of a rule without one within begins at an hour of 0 or more."""
    word = rule[0]
    if word == "once":
        return hour == rule[1]
    if word == "every":
        return comes_again(rule[1], rule[3], hour)
    if hour % DAY_HOURS != rule[2]:
        return False
    day = hour // DAY_HOURS
    if word == "week":
        return day % WEEK_DAYS in rule[1]
    return is_day_of_month(rule[1], day)


def is_cut(rule, hour):
    """Tell whether a from, until or but leaves out what begins at the hour within it."""
    word = rule[0]
    if word == "from":
        return hour < rule[1]
    if word == "until":
        return hour >= rule[1]
    return word == "but" and hour // DAY_HOURS in rule[1]


def begins(rule, hour):
    """Tell whether a span of the rule begins at the hour."""
    if hour < 0:
        return False
    inner = rule
    # From the outside in, each rule either settles the answer or leaves it to the one within.
    while inner[0] in WORDS_AROUND:
        if is_cut(inner, hour):
            return False
        if inner[0] == "also" and hour == inner[1]:
            return True
        inner = inner[2]
    return begins_plain(inner, hour)


def covers(rule, hour):
    """Tell whether the hour lies in a span of the rule."""
    for back in range(length_of(rule)):
        if begins(rule, hour - back):
            return True
    return False


def starts(rule, start, end):
    """Tell the hours from start to below end at which spans of the rule begin, rising."""
    return [hour for hour in range(start, end) if begins(rule, hour)]
