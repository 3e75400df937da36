"""Long tables by runs: the rules nearest to their parts, joined end to end."""

from cranktables.errors import NoDegree, NoTable
from cranktables.fractions import check_within, is_below, is_fraction
from cranktables.levels import MOST_WANTED, apart
from cranktables.nearest import nearest
from cranktables.rules import worth_at
from cranktables.wholes import is_within

FEWEST_LONG = 2
MOST_LONG = 24
LEAST_RUN_DEGREE = 1
MOST_RUN_DEGREE = 3


def is_long_table(thing):
    """Whether this is a list of two to twenty-four fractions."""
    if not isinstance(thing, list) or not FEWEST_LONG <= len(thing) <= MOST_LONG:
        return False
    return all([is_fraction(wanted) for wanted in thing])


def check_long(table, degree, within):
    """Refuse what is no long table, no degree of runs, or no fraction from 0 on."""
    if not is_long_table(table):
        raise NoTable("a long table is a list of 2 to 24 fractions")
    if not is_within(degree, LEAST_RUN_DEGREE, MOST_RUN_DEGREE):
        raise NoDegree("the degree of runs is from 1 to 3")
    check_within(within)


def nearest_to_part(table, degree, first, last):
    """The rule nearest to this part of the table, whose first turn is its 0, and its distance."""
    part = table[first:last + 1]
    rule, gap, turns = nearest(part, min(degree, last - first))
    return (rule, gap)


def last_of_run(table, degree, within, first):
    """The last turn of the longest run from this turn on."""
    # Any two turns lie on a line, and a longer run keeps within only where each shorter one does.
    last = first + 1
    while last + 1 < min(len(table), first + MOST_WANTED):
        rule, gap = nearest_to_part(table, degree, first, last + 1)
        if is_below(within, gap):
            break
        last += 1
    return last


def runs(table, degree, within):
    """The runs of a long table as (first, last), each as long as can be."""
    check_long(table, degree, within)
    found = []
    first = 0
    while first < len(table) - 1:
        last = last_of_run(table, degree, within, first)
        found.append((first, last))
        first = last
    return found


def joined(table, degree, within):
    """The runs as (first, last, rule), with the rule nearest to each one's part of the table."""
    return [
        (first, last, nearest_to_part(table, degree, first, last)[0])
        for first, last in runs(table, degree, within)
    ]


def steps(table, degree, within):
    """How far the worths of both rules are apart at each joint of two runs."""
    parts = joined(table, degree, within)
    told = []
    for k in range(1, len(parts)):
        first, last, ahead = parts[k - 1]
        behind = parts[k][2]
        told.append(apart(worth_at(ahead, last - first), worth_at(behind, 0)))
    return told
