"""Printing wheels: which one, turned alike in every column, puts all numbers right when it is turned back."""

from cranktables.errors import NoRows
from cranktables.figures import check_base, is_column, number_of
from cranktables.proofreading import are_right, check_proof_degree, is_size
from cranktables.wholes import power


def are_rows(thing, base, degree):
    """Whether this is a list of columns of the base, as many as can be proofread, of as many wheels each."""
    if not isinstance(thing, list) or not is_size(len(thing), degree):
        return False
    if not all([is_column(column, base) for column in thing]):
        return False
    return all([len(column) == len(thing[0]) for column in thing])


def gained_back(column, base, wheel, by):
    """What the column's number gains where this wheel is turned back by so many figures, and no other moves."""
    figure = column[-1 - wheel]
    return ((figure - by) % base - figure) * power(base, wheel)


def type_wheels(base, columns, degree):
    """All (wheel, by), in order, such that the numbers are right with this wheel turned back by so many figures."""
    check_base(base)
    check_proof_degree(degree)
    if not are_rows(columns, base, degree):
        raise NoRows("rows are a list of 3 more than the degree, to 24, columns of the base, of as many wheels each")
    numbers = [number_of(column, base) for column in columns]
    found = []
    for wheel in range(len(columns[0])):
        for by in range(1, base):
            gains = [gained_back(column, base, wheel, by) for column in columns]
            if are_right([number + gain for number, gain in zip(numbers, gains)], degree):
                found.append((wheel, by))
    return found
