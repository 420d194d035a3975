"""Days, counted from 0, and the dates that they have."""

from freehour.errors import NoDate
from freehour.whole import is_whole

MONTHS = 12
MONTH_LENGTHS = (31, 28, 31, 30, 31, 30, 31, 31, 30, 31, 30, 31)
YEAR_LENGTH = 365
FOUR_YEARS_LENGTH = 1461


def is_long(year):
    """Tell whether the year has a day more in its second month."""
    return year % 4 == 0


def year_length(year):
    """Tell how many days the year has."""
    if is_long(year):
        return YEAR_LENGTH + 1
    return YEAR_LENGTH


def month_length(year, month):
    """Tell how many days the month of that year has."""
    if month == 2 and is_long(year):
        return MONTH_LENGTHS[month - 1] + 1
    return MONTH_LENGTHS[month - 1]


def date_of(day):
    """Tell the date of a day: a tuple (year, month, number)."""
    # Four years are always equally long, so a day of any size is at once
    # among the first four years, and the loops below take few steps.
    fours, rest = divmod(day, FOUR_YEARS_LENGTH)
    year = 4 * fours
    while rest >= year_length(year):
        rest = rest - year_length(year)
        year = year + 1
    month = 1
    while rest >= month_length(year, month):
        rest = rest - month_length(year, month)
        month = month + 1
    return (year, month, rest + 1)


def day_of(year, month, number):
    """Tell the day of a date; refuse with NoDate what is no date."""
    if not is_whole(month, 1, MONTHS):
        raise NoDate("there is no such month")
    if not is_whole(number, 1, month_length(year, month)):
        raise NoDate("the month has no such day")
    # Year 0 is long, so every fourth year ahead is counted from it, rounded up.
    long_years = (year + 3) // 4
    months = sum([month_length(year, ahead) for ahead in range(1, month)])
    return YEAR_LENGTH * year + long_years + months + number - 1


def from_end(day):
    """Tell the place of a day in its month from the end: -1 is the last day."""
    year, month, number = date_of(day)
    return number - month_length(year, month) - 1
