"""How rules come round, and from which hour on."""

from freehour.rules import DAY_HOURS, WORDS_AROUND

ONCE_ROUND = 1
WEEK_ROUND = 168
MONTH_ROUND = 35064


def round_of(rule):
    """Tell after how many hours the begins of the rule are the same again."""
    inner = rule
    while inner[0] in WORDS_AROUND:
        inner = inner[2]
    if inner[0] == "once":
        return ONCE_ROUND
    if inner[0] == "every":
        return inner[3]
    if inner[0] == "week":
        return WEEK_ROUND
    return MONTH_ROUND


def settled_plain(rule):
    """Tell from which hour on a rule without one within is settled."""
    if rule[0] == "once":
        return rule[1] + 1
    if rule[0] == "every":
        return rule[1]
    return 0


def settled_around(rule):
    """Tell from which hour on a from, until, also or but changes nothing more."""
    if rule[0] == "also":
        return rule[1] + 1
    if rule[0] == "but":
        return (max(rule[1], default=-1) + 1) * DAY_HOURS
    return rule[1]


def settled(rule):
    """Tell from which hour on the rule comes round."""
    hours = []
    inner = rule
    while inner[0] in WORDS_AROUND:
        hours.append(settled_around(inner))
        inner = inner[2]
    return max([*hours, settled_plain(inner)])
