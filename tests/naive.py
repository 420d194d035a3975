"""What DOC.md says, written the slow way: the tests compare the program with it."""

MONTH_LENGTHS = [31, 28, 31, 30, 31, 30, 31, 31, 30, 31, 30, 31]


def months_of(years):
    """All months of the first years, in order: (year, month, length)."""
    rows = []
    for year in range(years):
        for month in range(1, 13):
            longer = 1 if month == 2 and year % 4 == 0 else 0
            rows.append((year, month, MONTH_LENGTHS[month - 1] + longer))
    return rows


def dates_of(years):
    """All dates of the first years, in order, the one of day 0 first."""
    return [
        (year, month, number)
        for year, month, length in months_of(years)
        for number in range(1, length + 1)
    ]


def month_begins(day, hour, years):
    """The begins of a month rule, month by month."""
    found = set()
    first = 0
    for _, _, length in months_of(years):
        number = day if day > 0 else length + 1 + day
        if 1 <= number <= length:
            found.add((first + number - 1) * 24 + hour)
        first += length
    return found


def plain_begins(rule, years):
    """The begins of a rule that has none within, in the first years."""
    end = len(dates_of(years)) * 24
    if rule[0] == "once":
        return {rule[1]}
    if rule[0] == "every":
        return set(range(rule[1], end, rule[3]))
    if rule[0] == "week":
        return {day * 24 + rule[2] for day in range(end // 24) if day % 7 in rule[1]}
    return month_begins(rule[1], rule[2], years)


def begins_of(rule, years):
    """The set of the begins of any rule, in the first years."""
    if rule[0] not in ("from", "until", "also", "but"):
        return plain_begins(rule, years)
    found = begins_of(rule[2], years)
    if rule[0] == "from":
        return {hour for hour in found if hour >= rule[1]}
    if rule[0] == "until":
        return {hour for hour in found if hour < rule[1]}
    if rule[0] == "also":
        return found | {rule[1]}
    return {hour for hour in found if hour // 24 not in rule[1]}
