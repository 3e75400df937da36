"""The fewest columns and places with which a near setting keeps close to a table."""

from cranktables.errors import NoPlaces
from cranktables.figures import check_base, check_wheels
from cranktables.fractions import check_within, is_below
from cranktables.levels import check_table
from cranktables.nearest import greatest_degree, nearest
from cranktables.rounding import near_setting, off
from cranktables.wholes import is_within

MOST_PLACES_TRIED = 12


def check_most(most):
    """Refuse what is no number of places up to which all are tried."""
    if not is_within(most, 0, MOST_PLACES_TRIED):
        raise NoPlaces("the most places are a whole number from 0 to 12")


def fewest(table, base, wheels, most, within):
    """The first near setting that is off by no more than within, and its places; None where there is none."""
    check_table(table)
    check_base(base)
    check_wheels(wheels)
    check_most(most)
    check_within(within)
    for degree in range(greatest_degree(table) + 1):
        rule = nearest(table, degree)[0]
        for places in range(most + 1):
            engine = near_setting(rule, base, wheels, places)
            if not is_below(within, off(engine, places, table)):
                return (engine, places)
    return None
