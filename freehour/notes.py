"""Rules as texts: how one is written, and how it is read again."""

from freehour.errors import NoRule
from freehour.rules import MOST_RULES_WITHIN, WORDS_AROUND, is_rule

FIGURES = "0123456789"
MOST_FIGURES = 12
WORDS_WITH_DAYS = ("week", "but")


def shown_part(part):
    """Write a rule's word, a number or days."""
    if isinstance(part, tuple):
        return ",".join([str(day) for day in part])
    return str(part)


def shown(rule):
    """Write the rule as a text."""
    parts = []
    inner = rule
    while inner[0] in WORDS_AROUND:
        parts = [*parts, inner[0], inner[1]]
        inner = inner[2]
    return " ".join([shown_part(part) for part in [*parts, *inner]])


def read_number(word):
    """Read a whole number; None where the word writes none, or one of too many figures."""
    figures = word.removeprefix("-")
    # No number of a rule has more figures, and Python refuses to read very many.
    if not 1 <= len(figures) <= MOST_FIGURES:
        return None
    if not all([sign in FIGURES for sign in figures]):
        return None
    if figures[0] == "0" and word != "0":
        return None
    return int(word)


def read_part(words, at):
    """Read the word at that place among those of a rule; it may be no part of any rule."""
    if at == 0:
        return words[0]
    if at == 1 and words[0] in WORDS_WITH_DAYS:
        return tuple([read_number(day) for day in words[1].split(",")])
    return read_number(words[at])


def read_parts(words):
    """Read the words of a rule without one within."""
    return tuple([read_part(words, at) for at in range(len(words))])


def read(text):
    """Read the rule that the text writes; refuse with NoRule where it writes none."""
    words = text.split(" ")
    arounds = []
    while words[0] in WORDS_AROUND and len(words) > 2 and len(arounds) < MOST_RULES_WITHIN:
        arounds.append(read_parts(words[:2]))
        words = words[2:]
    rule = read_parts(words)
    for around in reversed(arounds):
        rule = (*around, rule)
    if not is_rule(rule):
        raise NoRule("the text writes no rule")
    return rule
