"""Fractions: tuples (top, bottom) in lowest terms, the bottom from 1 on."""

from cranktables.errors import NoFraction, NoWithin
from cranktables.wholes import is_whole


def common_divisor(one, other):
    """The greatest whole number that divides both, found by remainders."""
    one, other = abs(one), abs(other)
    while other > 0:
        one, other = other, one % other
    return one


def lowest_terms(top, bottom):
    """The fraction of two whole numbers, the second not 0."""
    divisor = common_divisor(top, bottom)
    # Dividing both by a divisor below 0 brings the sign up to the top.
    if bottom < 0:
        divisor = -divisor
    return (top // divisor, bottom // divisor)


def over_one_bottom(parts):
    """The fractions told as a list of tops over one bottom: (tops, bottom)."""
    common = 1
    for top, bottom in parts:
        common = common * bottom // common_divisor(common, bottom)
    return ([top * (common // bottom) for top, bottom in parts], common)


def fraction(top, bottom):
    """The fraction made of two whole numbers, the second not 0."""
    if not is_whole(top) or not is_whole(bottom):
        raise NoFraction("a fraction is made of two whole numbers")
    if bottom == 0:
        raise NoFraction("the bottom of a fraction is not 0")
    return lowest_terms(top, bottom)


def is_fraction(thing):
    """Whether this is a tuple (top, bottom) that fraction could have told."""
    if not isinstance(thing, tuple) or len(thing) != 2:
        return False
    top, bottom = thing
    if not is_whole(top) or not is_whole(bottom) or bottom < 1:
        return False
    return common_divisor(top, bottom) == 1


def check_fraction(value):
    """Refuse what is no fraction."""
    if not is_fraction(value):
        raise NoFraction("a fraction is a tuple of a top and a bottom from 1 on, in lowest terms")


def check_fractions(one, other):
    """Refuse the two unless both are fractions."""
    check_fraction(one)
    check_fraction(other)


def check_within(within):
    """Refuse what is no fraction from 0 on."""
    if not is_fraction(within) or within[0] < 0:
        raise NoWithin("how far apart things may be is a fraction from 0 on")


def plus(one, other):
    """The sum of two fractions."""
    check_fractions(one, other)
    return lowest_terms(one[0] * other[1] + other[0] * one[1], one[1] * other[1])


def less(one, other):
    """The first fraction less the other."""
    check_fractions(one, other)
    return lowest_terms(one[0] * other[1] - other[0] * one[1], one[1] * other[1])


def times(one, other):
    """The product of two fractions."""
    check_fractions(one, other)
    return lowest_terms(one[0] * other[0], one[1] * other[1])


def over(one, other):
    """The first fraction divided by the other, which is not nought."""
    check_fractions(one, other)
    if other[0] == 0:
        raise NoFraction("nothing is divided by nought")
    return lowest_terms(one[0] * other[1], one[1] * other[0])


def is_below(one, other):
    """Whether the first fraction is less than the other."""
    check_fractions(one, other)
    return one[0] * other[1] < other[0] * one[1]
