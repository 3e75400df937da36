"""Proofreading of printed values: whether they follow a rule of a degree, and which one does not."""

from cranktables.errors import NoDegree, NoValues
from cranktables.nearest import MOST_DEGREE
from cranktables.rules import differences_in
from cranktables.wholes import is_whole, is_within, power

# With fewer values than this beyond the degree a wrong one could not be told from the others.
SPARE = 3
MOST_VALUES = 24


def is_size(many, degree):
    """Whether so many values can be proofread with this degree."""
    return degree + SPARE <= many <= MOST_VALUES


def check_proof_degree(degree):
    """Refuse what is no degree."""
    if not is_within(degree, 0, MOST_DEGREE):
        raise NoDegree("a degree is from 0 to 4")


def check_values(values, degree):
    """Refuse what is no degree, or no list of values of it."""
    check_proof_degree(degree)
    if not isinstance(values, list) or not is_size(len(values), degree):
        raise NoValues("values are a list of 3 more than the degree, to 24")
    if not all([is_whole(value) for value in values]):
        raise NoValues("values are whole numbers")


def last_differences(values, degree):
    """The differences of order degree and 1."""
    row = values
    for order in range(degree + 1):
        row = differences_in(row)
    return row


def are_right(values, degree):
    """Whether what are known to be values of the degree are right."""
    return not any(last_differences(values, degree))


def is_right(values, degree):
    """Whether the values are the worths of a rule of at most one fraction more than the degree."""
    check_values(values, degree)
    return are_right(values, degree)


def error_at(place, marks, many, degree):
    """By how much the value at this place is wrong if it alone is, as a top and a bottom; None where it is not so."""
    # One that is wrong by 1 leaves the same marks wherever the rule goes, and others are multiples of these.
    ones = last_differences([1 if k == place else 0 for k in range(many)], degree)
    at = [k for k in range(len(ones)) if ones[k] != 0][0]
    if any([mark * ones[at] != one * marks[at] for mark, one in zip(marks, ones)]):
        return None
    return (marks[at], ones[at])


def proofread(values, degree):
    """Whether the values are right; else the place and the whole number that puts them right, or that none does."""
    check_values(values, degree)
    marks = last_differences(values, degree)
    if not any(marks):
        return ("right",)
    for place in range(len(values)):
        found = error_at(place, marks, len(values), degree)
        if found is not None and found[0] % found[1] == 0:
            return ("one", place, values[place] - found[0] // found[1])
    return ("more",)


def loud(values, degree):
    """The places at which the last differences are greater than rounding can make them."""
    check_values(values, degree)
    most = power(2, degree)
    return [k for k, mark in enumerate(last_differences(values, degree)) if abs(mark) > most]
