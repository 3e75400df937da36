"""Rounding: near settings of rules, and how far what they show is off."""

from cranktables.engines import MOST_COLUMNS, engine_of
from cranktables.errors import NoColumns
from cranktables.figures import check_base, check_wheels
from cranktables.fractions import check_fraction, lowest_terms, over_one_bottom
from cranktables.levels import check_table, greatest_apart
from cranktables.rules import check_rule, value_at
from cranktables.settings import check_places, numbers_showing
from cranktables.standing import choices, readings
from cranktables.turning import check_turns
from cranktables.wholes import is_within, power


def nearest_whole(top, bottom):
    """The whole number nearest to the top divided by the bottom, which is above 0, of two as near the even one."""
    whole, rest = divmod(top, bottom)
    if 2 * rest == bottom:
        return whole + whole % 2
    return whole + 1 if 2 * rest > bottom else whole


def rounded(value):
    """The whole number nearest to a fraction, of two as near the even one."""
    check_fraction(value)
    top, bottom = value
    return nearest_whole(top, bottom)


def near_setting(rule, base, wheels, places):
    """The engine set by the rule from 0 on, each column's number rounded."""
    check_rule(rule)
    check_base(base)
    check_wheels(wheels)
    check_places(places)
    tops, bottom = over_one_bottom(rule)
    # Worths over one bottom are whole numbers, so their columns are reckoned as those of a setting are.
    numbers = numbers_showing([value_at(tops, x) for x in range(len(rule))])
    unit = power(base, places)
    return engine_of(base, wheels, [nearest_whole(number * unit, bottom) for number in numbers])


def off(engine, places, table):
    """The greatest by which what column 0 reads, with so many places, and what is wanted are apart."""
    check_places(places)
    check_table(table)
    unit = power(engine.base(), places)
    shown = [lowest_terms(reading, unit) for reading in readings(engine, len(table))]
    return greatest_apart(shown, table)


def bound(columns, m):
    """Half the sum of what column 0 gains, m turns on, for each 1 in each of so many columns, without signs."""
    if not is_within(columns, 1, MOST_COLUMNS):
        raise NoColumns("an engine has from 1 to 8 columns")
    check_turns(m)
    return lowest_terms(sum([abs(choices(m + (k - 1) // 2, k)) for k in range(columns)]), 2)
