"""Tables of what is wanted, their levels, and how far rules are from them."""

from cranktables.errors import NoPicked, NoTable
from cranktables.fractions import is_below, is_fraction, less, lowest_terms, over_one_bottom
from cranktables.rules import NOUGHT, check_rule, weights, worth_at
from cranktables.wholes import are_rising

MOST_WANTED = 10
FEWEST_PICKED = 2
MOST_PICKED = 6


def is_table(thing):
    """Whether this is a list of one to ten fractions."""
    if not isinstance(thing, list) or not 1 <= len(thing) <= MOST_WANTED:
        return False
    return all([is_fraction(wanted) for wanted in thing])


def check_table(table):
    """Refuse what is no table."""
    if not is_table(table):
        raise NoTable("a table is a list of 1 to 10 fractions")


def check_picked(turns, table):
    """Refuse what is no rising list of two to six turns of the table."""
    if not isinstance(turns, list) or not FEWEST_PICKED <= len(turns) <= MOST_PICKED:
        raise NoPicked("a level is told of a list of 2 to 6 turns")
    if not are_rising(turns, 0, len(table) - 1):
        raise NoPicked("a level is told of rising turns of the table")


def signed_level(tops, turns):
    """The level of whole numbers at these turns, with its sign, as a top and a bottom."""
    # What all weights have in common below stands in both sums, so it may be left out.
    shares = weights(turns)[0]
    total = sum([share * tops[turn] for share, turn in zip(shares, turns)])
    return (total, sum([abs(share) for share in shares]))


def level(table, turns):
    """The level of the table at these turns."""
    check_table(table)
    check_picked(turns, table)
    tops, bottom = over_one_bottom(table)
    total, size = signed_level(tops, turns)
    return lowest_terms(abs(total), size * bottom)


def apart(one, other):
    """How far two fractions are apart."""
    top, bottom = less(one, other)
    return (abs(top), bottom)


def greatest_apart(shown, table):
    """The greatest by which what is shown and what is wanted are apart, turn by turn."""
    greatest = NOUGHT
    for one, other in zip(shown, table):
        gap = apart(one, other)
        if is_below(greatest, gap):
            greatest = gap
    return greatest


def distance(rule, table):
    """The greatest by which a worth of the rule and what is wanted are apart."""
    check_rule(rule)
    check_table(table)
    return greatest_apart([worth_at(rule, turn) for turn in range(len(table))], table)
