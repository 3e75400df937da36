"""Rules: tuples of fractions, and what they are worth at whole numbers."""

from cranktables.errors import NoRule, NoStart
from cranktables.figures import check_base
from cranktables.fractions import common_divisor, is_fraction, lowest_terms, over_one_bottom
from cranktables.wholes import is_of_thirty_figures

MOST_FRACTIONS = 8
NOUGHT = (0, 1)


def is_rule(thing):
    """Whether this is a tuple of one to eight fractions, the last of several not nought."""
    if not isinstance(thing, tuple) or not 1 <= len(thing) <= MOST_FRACTIONS:
        return False
    if not all([is_fraction(part) for part in thing]):
        return False
    return len(thing) == 1 or thing[-1] != NOUGHT


def check_rule(rule):
    """Refuse what is no rule."""
    if not is_rule(rule):
        raise NoRule("a rule is a tuple of 1 to 8 fractions, the last of several not nought")


def check_start(x):
    """Refuse what is no start."""
    if not is_of_thirty_figures(x):
        raise NoStart("a start is a whole number of at most thirty figures")


def value_at(tops, x):
    """The first number, the second times x, the third times x times x, and so on, together."""
    value = 0
    for top in tops[::-1]:
        value = value * x + top
    return value


def worth_at(rule, x):
    """The worth of what is known to be a rule, at any whole number."""
    tops, bottom = over_one_bottom(rule)
    return lowest_terms(value_at(tops, x), bottom)


def differences_in(row):
    """Each number of the row, but the first, less the one ahead of it."""
    return [row[k] - row[k - 1] for k in range(1, len(row))]


def first_differences(values):
    """The first of the numbers, of their differences, of the differences of these, and so on."""
    firsts = []
    row = values
    while row:
        firsts.append(row[0])
        row = differences_in(row)
    return firsts


def differences_at(rule, x):
    """The differences of what is known to be a rule, at any whole number."""
    tops, bottom = over_one_bottom(rule)
    values = [value_at(tops, x + k) for k in range(len(rule))]
    return [lowest_terms(number, bottom) for number in first_differences(values)]


def worth(rule, x):
    """The worth of the rule at x."""
    check_rule(rule)
    check_start(x)
    return worth_at(rule, x)


def differences(rule, x):
    """The differences of the rule at x, as many as it has fractions."""
    check_rule(rule)
    check_start(x)
    return differences_at(rule, x)


def places_for(bottom, base):
    """The least power of the base that the bottom divides, or None."""
    places = 0
    while bottom > 1:
        divisor = common_divisor(bottom, base)
        if divisor == 1:
            return None
        bottom //= divisor
        places += 1
    return places


def least_places(rule, base):
    """The fewest places with which all worths of the rule are whole in the base, or None."""
    check_rule(rule)
    check_base(base)
    # Each worth is a sum of whole multiples of the differences at 0, and these are such sums of worths.
    needed = [places_for(bottom, base) for top, bottom in differences_at(rule, 0)]
    if None in needed:
        return None
    return max(needed)


def weights(turns):
    """Of each turn 1 divided by the product of it less each other one, as tops over one bottom."""
    parts = []
    for turn in turns:
        product = 1
        for other in turns:
            if other != turn:
                product *= turn - other
        parts.append(lowest_terms(1, product))
    return over_one_bottom(parts)


def product_without(turns, turn):
    """The product of x less each of the turns but this one: what stands ahead of 1, x, x times x .."""
    tops = [1]
    for other in turns:
        if other != turn:
            tops = [up - other * stays for up, stays in zip([0, *tops], [*tops, 0])]
    return tops


def rule_through(turns, values, unit):
    """The rule of at most as many fractions as turns that is worth the values there, in parts of the unit."""
    shares, bottom = weights(turns)
    tops = [0] * len(turns)
    for turn, value, share in zip(turns, values, shares):
        product = product_without(turns, turn)
        tops = [top + value * share * part for top, part in zip(tops, product)]
    parts = [lowest_terms(top, bottom * unit) for top in tops]
    while len(parts) > 1 and parts[-1] == NOUGHT:
        parts.pop()
    return tuple(parts)
