"""The rule of a degree that is nearest to a table."""

from cranktables.errors import NoDegree
from cranktables.fractions import lowest_terms, over_one_bottom
from cranktables.levels import check_table, signed_level
from cranktables.rules import NOUGHT, rule_through
from cranktables.wholes import is_within

MOST_DEGREE = 4


def rising_picks(many, size):
    """All rising lists of so many of the numbers from 0 on below many, in order."""
    picks = [[]]
    for place in range(size):
        picks = [
            [*picked, turn]
            for picked in picks
            for turn in range(picked[-1] + 1 if picked else 0, many)
        ]
    return picks


def greatest_level(tops, size):
    """The first of all picks of so many turns with the greatest level, and that, with its sign, as two numbers."""
    best, best_top, best_bottom = [], 0, 1
    for picked in rising_picks(len(tops), size):
        top, bottom = signed_level(tops, picked)
        if abs(top) * best_bottom > abs(best_top) * bottom:
            best, best_top, best_bottom = picked, top, bottom
    return (best, best_top, best_bottom)


def levelled(tops, turns, top, bottom):
    """What the rule is worth at these turns, by turns above and below by the level, in parts of the bottom."""
    # The last weight is above 0, so what is wanted there differs by the level with its own sign.
    values = []
    aside = top
    for turn in turns[::-1]:
        values.append(tops[turn] * bottom - aside)
        aside = -aside
    return values[::-1]


def greatest_degree(table):
    """The greatest degree that the table lets."""
    return min(MOST_DEGREE, len(table) - 1)


def nearest(table, degree):
    """The nearest rule of the degree, its distance, and the first turns that show it."""
    check_table(table)
    if not is_within(degree, 0, greatest_degree(table)):
        raise NoDegree("a degree is from 0 to 4 and less than the table has fractions")
    tops, common = over_one_bottom(table)
    turns, top, bottom = greatest_level(tops, degree + 2)
    if not turns:
        # Any degree and 1 turns tell the rule that the whole table follows.
        return (rule_through(list(range(degree + 1)), tops[:degree + 1], common), NOUGHT, [])
    values = levelled(tops, turns, top, bottom)
    rule = rule_through(turns[:-1], values[:-1], bottom * common)
    return (rule, lowest_terms(abs(top), bottom * common), turns)
