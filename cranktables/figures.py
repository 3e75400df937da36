"""Columns: tuples of figures of a base, the highest first, and their numbers."""

from cranktables.errors import NoBase, NoColumn, NoWheels
from cranktables.wholes import is_whole, is_within, power

MOST_WHEELS = 40


def is_base(thing):
    """Whether this is a base."""
    return is_within(thing, 2, 16)


def is_column(thing, base):
    """Whether this is a column of the base."""
    if not isinstance(thing, tuple) or not 1 <= len(thing) <= MOST_WHEELS:
        return False
    return all([is_within(figure, 0, base - 1) for figure in thing])


def check_base(base):
    """Refuse what is no base."""
    if not is_base(base):
        raise NoBase("a base is a whole number from 2 to 16")


def check_wheels(wheels):
    """Refuse what is no number of wheels that a column can have."""
    if not is_within(wheels, 1, MOST_WHEELS):
        raise NoWheels("a column has from 1 to 40 wheels")


def column_of(number, base, wheels):
    """The column of so many wheels that differs from the number by a multiple of M."""
    check_base(base)
    check_wheels(wheels)
    if not is_whole(number):
        raise NoColumn("a column is made of a whole number")
    figures = []
    # Quotients are rounded down, so numbers below 0 come out right, too.
    for wheel in range(wheels):
        number, figure = divmod(number, base)
        figures.append(figure)
    return tuple(figures[::-1])


def number_of(column, base):
    """The number of a column: from 0 to M less 1."""
    check_base(base)
    if not is_column(column, base):
        raise NoColumn("a column is a tuple of 1 to 40 figures of its base")
    number = 0
    for figure in column:
        number = number * base + figure
    return number


def read_of(column, base):
    """What a column reads: its number, or that less M where twice that is M or more."""
    number = number_of(column, base)
    modulus = power(base, len(column))
    if 2 * number >= modulus:
        return number - modulus
    return number
